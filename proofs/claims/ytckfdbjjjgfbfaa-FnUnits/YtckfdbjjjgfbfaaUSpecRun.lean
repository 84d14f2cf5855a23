/-
  Contracts over the program: the model's Run.
-/
import Derived.Test.YtckfdbjjjgfbfaaURunB
import Derived.Test.YtckfdbjjjgfbfaaUStepS
import Derived.Test.YtckfdbjjjgfbfaaUStepL
import Derived.Test.YtckfdbjjjgfbfaaUAluNum
import Derived.Deep.DeepCutAuto
namespace Go.Proofs.Ytckfdbjjjgfbfaa
set_option linter.unusedVariables false
set_option linter.unusedSimpArgs false
open Go.RowKit

/-- A run of the model's that is under way. -/
def InvS (w : World) (c : CpuN) (L : List Nat) (E : List EvN) (P k : Nat) (wr : World) : Prop :=
  ∃ (s : ShotN) (st : List Int) (ma : Option Addr) (n1 mc : Nat) (ta : Option Addr) (n2 tc : Nat) (sa : Option Addr) (n3 sc : Nat) (pa : Option Addr) (n4 pc l1 h1 l2 h2 l3 h3 l4 h4 : Nat),
    n1 = s.mem.length ∧ n2 = s.trace.length ∧ n3 = st.length ∧ n4 = s.cpus.length ∧ st = s.starts.map (fun (n : Nat) => (n : Int)) ∧ Under c L E k s ∧
    BoxN wr P 35 (shotCells s.cpu (.slice ma n1 mc) (.slice ta n2 tc) (.slice sa n3 sc) (.slice pa n4 pc) false) ∧ BoxN wr (w.heap.size + 1 + 1) 35 #[.int .u8 0, .int .u8 0, .int .u8 0, .int .u8 0, .int .u16 0, .bool false, .bool false, .bool false, .bool false, .bool false, .bool false, .slice none 0 0, .slice none 0 0, .slice none 0 0, .slice none 0 0, .bool false] ∧
    SegB wr l1 h1 (.slice ma n1 mc) s.mem ∧ SegC wr l2 h2 (.slice ta n2 tc) s.trace ∧ SegG encI wr l3 h3 (.slice sa n3 sc) st ∧ SegG encCpu wr l4 h4 (.slice pa n4 pc) s.cpus ∧
    Places (w.heap.size + 3) wr.heap.size P l1 h1 l2 h2 l3 h3 l4 h4 ∧ Below w.heap.size w wr

set_option maxRecDepth 100000 in
set_option maxHeartbeats 4000000 in
theorem specRun_no_ram (c : CpuN) (a : Option Addr) (cap : Nat) (L : List Nat) (ax : Option Addr) (capx : Nat) (E : List EvN) (n : Int) (w : World) (h : ramN L.length = false) :
    Calls Try.prog 21 #[cpuV c, ramV (.slice a L.length cap), .slice ax E.length capx, .int .i64 n] w (Shown w ⟨cpu0, [], [], [], [], false⟩) := by
  have HO := fun w => specOk_any a L.length cap w
  rw [h] at HO
  clear h
  have b1 := Below.refl w.heap.size w
  have y1 : BoxN (w.alloc (.cells #[.int .u8 (c.A : Int), .int .u8 (c.X : Int), .int .u8 (c.Y : Int), .int .u8 (c.S : Int), .int .u16 (c.PC : Int), .bool c.N, .bool c.V, .bool c.D, .bool c.I, .bool c.Z, .bool c.C] 28)) w.heap.size 28 #[.int .u8 (c.A : Int), .int .u8 (c.X : Int), .int .u8 (c.Y : Int), .int .u8 (c.S : Int), .int .u16 (c.PC : Int), .bool c.N, .bool c.V, .bool c.D, .bool c.I, .bool c.Z, .bool c.C] := by
    have h := BoxN.new w 28 #[.int .u8 (c.A : Int), .int .u8 (c.X : Int), .int .u8 (c.Y : Int), .int .u8 (c.S : Int), .int .u16 (c.PC : Int), .bool c.N, .bool c.V, .bool c.D, .bool c.I, .bool c.Z, .bool c.C]
    simpa only [World.size_alloc] using h
  have a2 := alw w (.cells #[.int .u8 (c.A : Int), .int .u8 (c.X : Int), .int .u8 (c.Y : Int), .int .u8 (c.S : Int), .int .u16 (c.PC : Int), .bool c.N, .bool c.V, .bool c.D, .bool c.I, .bool c.Z, .bool c.C] 28)
  have b3 := bstep b1 a2
  have y4 : BoxN ((w.alloc (.cells #[.int .u8 (c.A : Int), .int .u8 (c.X : Int), .int .u8 (c.Y : Int), .int .u8 (c.S : Int), .int .u16 (c.PC : Int), .bool c.N, .bool c.V, .bool c.D, .bool c.I, .bool c.Z, .bool c.C] 28)).alloc (.cells #[.slice a L.length cap] 30)) (w.heap.size + 1) 30 #[.slice a L.length cap] := by
    have h := BoxN.new (w.alloc (.cells #[.int .u8 (c.A : Int), .int .u8 (c.X : Int), .int .u8 (c.Y : Int), .int .u8 (c.S : Int), .int .u16 (c.PC : Int), .bool c.N, .bool c.V, .bool c.D, .bool c.I, .bool c.Z, .bool c.C] 28)) 30 #[.slice a L.length cap]
    simpa only [World.size_alloc] using h
  have a5 := alw (w.alloc (.cells #[.int .u8 (c.A : Int), .int .u8 (c.X : Int), .int .u8 (c.Y : Int), .int .u8 (c.S : Int), .int .u16 (c.PC : Int), .bool c.N, .bool c.V, .bool c.D, .bool c.I, .bool c.Z, .bool c.C] 28)) (.cells #[.slice a L.length cap] 30)
  have b6 := bstep b3 a5
  replace y1 := y1.below a5
  have y7 : BoxN (((w.alloc (.cells #[.int .u8 (c.A : Int), .int .u8 (c.X : Int), .int .u8 (c.Y : Int), .int .u8 (c.S : Int), .int .u16 (c.PC : Int), .bool c.N, .bool c.V, .bool c.D, .bool c.I, .bool c.Z, .bool c.C] 28)).alloc (.cells #[.slice a L.length cap] 30)).alloc (.cells #[.int .u8 0, .int .u8 0, .int .u8 0, .int .u8 0, .int .u16 0, .bool false, .bool false, .bool false, .bool false, .bool false, .bool false, .slice none 0 0, .slice none 0 0, .slice none 0 0, .slice none 0 0, .bool false] 35)) (w.heap.size + 1 + 1) 35 #[.int .u8 0, .int .u8 0, .int .u8 0, .int .u8 0, .int .u16 0, .bool false, .bool false, .bool false, .bool false, .bool false, .bool false, .slice none 0 0, .slice none 0 0, .slice none 0 0, .slice none 0 0, .bool false] := by
    have h := BoxN.new ((w.alloc (.cells #[.int .u8 (c.A : Int), .int .u8 (c.X : Int), .int .u8 (c.Y : Int), .int .u8 (c.S : Int), .int .u16 (c.PC : Int), .bool c.N, .bool c.V, .bool c.D, .bool c.I, .bool c.Z, .bool c.C] 28)).alloc (.cells #[.slice a L.length cap] 30)) 35 #[.int .u8 0, .int .u8 0, .int .u8 0, .int .u8 0, .int .u16 0, .bool false, .bool false, .bool false, .bool false, .bool false, .bool false, .slice none 0 0, .slice none 0 0, .slice none 0 0, .slice none 0 0, .bool false]
    simpa only [World.size_alloc] using h
  have a8 := alw ((w.alloc (.cells #[.int .u8 (c.A : Int), .int .u8 (c.X : Int), .int .u8 (c.Y : Int), .int .u8 (c.S : Int), .int .u16 (c.PC : Int), .bool c.N, .bool c.V, .bool c.D, .bool c.I, .bool c.Z, .bool c.C] 28)).alloc (.cells #[.slice a L.length cap] 30)) (.cells #[.int .u8 0, .int .u8 0, .int .u8 0, .int .u8 0, .int .u16 0, .bool false, .bool false, .bool false, .bool false, .bool false, .bool false, .slice none 0 0, .slice none 0 0, .slice none 0 0, .slice none 0 0, .bool false] 35)
  have b9 := bstep b6 a8
  replace y1 := y1.below a8
  replace y4 := y4.below a8
  clear a2 a5 a8
  have z10 : Hid ((((w.alloc (.cells #[.int .u8 (c.A : Int), .int .u8 (c.X : Int), .int .u8 (c.Y : Int), .int .u8 (c.S : Int), .int .u16 (c.PC : Int), .bool c.N, .bool c.V, .bool c.D, .bool c.I, .bool c.Z, .bool c.C] 28)).alloc (.cells #[.slice a L.length cap] 30)).alloc (.cells #[.int .u8 0, .int .u8 0, .int .u8 0, .int .u8 0, .int .u16 0, .bool false, .bool false, .bool false, .bool false, .bool false, .bool false, .slice none 0 0, .slice none 0 0, .slice none 0 0, .slice none 0 0, .bool false] 35)).heap.size = w.heap.size + 3) := Lib.hid (by simp only [World.size_alloc])
  go_enter Try.func21, Try.ntmps21
  have ld11 : (Instr.loadAt 30 (.pointer (some ⟨(w.heap.size + 1), 0, none⟩))).run Try.prog (((w.alloc (.cells #[.int .u8 (c.A : Int), .int .u8 (c.X : Int), .int .u8 (c.Y : Int), .int .u8 (c.S : Int), .int .u16 (c.PC : Int), .bool c.N, .bool c.V, .bool c.D, .bool c.I, .bool c.Z, .bool c.C] 28)).alloc (.cells #[.slice a L.length cap] 30)).alloc (.cells #[.int .u8 0, .int .u8 0, .int .u8 0, .int .u8 0, .int .u16 0, .bool false, .bool false, .bool false, .bool false, .bool false, .bool false, .slice none 0 0, .slice none 0 0, .slice none 0 0, .slice none 0 0, .bool false] 35)) = .ok (.agg #[.slice a L.length cap]) (((w.alloc (.cells #[.int .u8 (c.A : Int), .int .u8 (c.X : Int), .int .u8 (c.Y : Int), .int .u8 (c.S : Int), .int .u16 (c.PC : Int), .bool c.N, .bool c.V, .bool c.D, .bool c.I, .bool c.Z, .bool c.C] 28)).alloc (.cells #[.slice a L.length cap] 30)).alloc (.cells #[.int .u8 0, .int .u8 0, .int .u8 0, .int .u8 0, .int .u16 0, .bool false, .bool false, .bool false, .bool false, .bool false, .bool false, .slice none 0 0, .slice none 0 0, .slice none 0 0, .slice none 0 0, .bool false] 35)) := load_part y4 0 #[.slice a L.length cap] (by kernel_rfl) (by kernel_rfl) (by kernel_rfl)
  replace ld11 := Lib.hid ld11
  clear b1 b3 b6
  replace y1 := Lib.hid y1
  replace y4 := Lib.hid y4
  replace y7 := Lib.hid y7
  replace b9 := Lib.hid b9
  go_wp2_with ((with_reducible refine wpList_load_fit ld11.out ?_ ?_; focus (exact ⟨rfl, _, rfl, rfl⟩)))
  replace y1 := y1.out
  replace y4 := y4.out
  replace y7 := y7.out
  replace b9 := b9.out
  clear ld11
  refine (HO _).mono ?_
  rintro e w12 ⟨rfl, d13⟩
  replace d13 : Below (((w.alloc (.cells #[.int .u8 (c.A : Int), .int .u8 (c.X : Int), .int .u8 (c.Y : Int), .int .u8 (c.S : Int), .int .u16 (c.PC : Int), .bool c.N, .bool c.V, .bool c.D, .bool c.I, .bool c.Z, .bool c.C] 28)).alloc (.cells #[.slice a L.length cap] 30)).alloc (.cells #[.int .u8 0, .int .u8 0, .int .u8 0, .int .u8 0, .int .u16 0, .bool false, .bool false, .bool false, .bool false, .bool false, .bool false, .slice none 0 0, .slice none 0 0, .slice none 0 0, .slice none 0 0, .bool false] 35)).heap.size (((w.alloc (.cells #[.int .u8 (c.A : Int), .int .u8 (c.X : Int), .int .u8 (c.Y : Int), .int .u8 (c.S : Int), .int .u16 (c.PC : Int), .bool c.N, .bool c.V, .bool c.D, .bool c.I, .bool c.Z, .bool c.C] 28)).alloc (.cells #[.slice a L.length cap] 30)).alloc (.cells #[.int .u8 0, .int .u8 0, .int .u8 0, .int .u8 0, .int .u16 0, .bool false, .bool false, .bool false, .bool false, .bool false, .bool false, .slice none 0 0, .slice none 0 0, .slice none 0 0, .slice none 0 0, .bool false] 35)) w12 := d13
  have b14 := bstep b9 d13
  have p15 := y1.below d13
  have p16 := y4.below d13
  have p17 := y7.below d13
  have z18 := Lib.hid d13.size
  clear b9 y1 y4 y7 d13
  obtain ⟨w19, hs20, q21, sp22, z23⟩ := store_part (ty := 35) (cs' := #[.int .u8 0, .int .u8 0, .int .u8 0, .int .u8 0, .int .u16 0, .bool false, .bool false, .bool false, .bool false, .bool false, .bool false, .slice none 0 0, .slice none 0 0, .slice none 0 0, .slice none 0 0, .bool false]) p17 0 #[.int .u8 0, .int .u8 0, .int .u8 0, .int .u8 0, .int .u16 0, .bool false, .bool false, .bool false, .bool false, .bool false, .bool false, .slice none 0 0, .slice none 0 0, .slice none 0 0, .slice none 0 0, .bool false] (by kernel_rfl) (Nat.le_of_ble_eq_true (by kernel_rfl)) (by kernel_rfl) (by kernel_rfl)
  replace z23 := Lib.hid z23
  replace hs20 := Lib.hid hs20
  have u25 := Lib.hid (And.intro z10.out (And.intro z18.out z23.out))
  have b24 := b14.trans (sp22.below (by have := u25.out; omega) b14.size)
  have p26 := p15.span sp22 (by have := u25.out; omega)
  have p27 := p16.span sp22 (by have := u25.out; omega)
  have z28 := Lib.hid sp22.size
  clear b14 p15 p16 sp22
  clear p17
  replace p26 := Lib.hid p26
  replace p27 := Lib.hid p27
  replace q21 := Lib.hid q21
  replace b24 := Lib.hid b24
  go_wp2_with ((with_reducible refine wpList_store_fit hs20.out ?_ ?_; focus (exact ⟨rfl, rfl, _, _, rfl, rfl, rfl⟩)))
  replace p26 := p26.out
  replace p27 := p27.out
  replace q21 := q21.out
  replace b24 := b24.out
  exact bodyPost_ret (v := .agg #[.int .u8 0, .int .u8 0, .int .u8 0, .int .u8 0, .int .u16 0, .bool false, .bool false, .bool false, .bool false, .bool false, .bool false, .slice none 0 0, .slice none 0 0, .slice none 0 0, .slice none 0 0, .bool false]) (result_box Try.results21 q21 rfl (by kernel_rfl) (by kernel_rfl)) rfl ⟨_, _, _, _, rfl, shot_none _ _ _ b24.size, b24⟩

set_option maxRecDepth 100000 in
set_option maxHeartbeats 4000000 in
theorem specRun_no_n (c : CpuN) (a : Option Addr) (cap : Nat) (L : List Nat) (ax : Option Addr) (capx : Nat) (E : List EvN) (n : Int) (w : World) (h : ramN L.length = true) (hn : ¬ (0 ≤ n ∧ n ≤ 120)) :
    Calls Try.prog 21 #[cpuV c, ramV (.slice a L.length cap), .slice ax E.length capx, .int .i64 n] w (Shown w ⟨cpu0, [], [], [], [], false⟩) := by
  have HO := fun w => specOk_any a L.length cap w
  rw [h] at HO
  have HI := fun w => in_any n 0 120 w
  rw [show (decide (0 ≤ n) && decide (n ≤ 120)) = false by simp; omega] at HI
  clear h
  clear hn
  have b1 := Below.refl w.heap.size w
  have y1 : BoxN (w.alloc (.cells #[.int .u8 (c.A : Int), .int .u8 (c.X : Int), .int .u8 (c.Y : Int), .int .u8 (c.S : Int), .int .u16 (c.PC : Int), .bool c.N, .bool c.V, .bool c.D, .bool c.I, .bool c.Z, .bool c.C] 28)) w.heap.size 28 #[.int .u8 (c.A : Int), .int .u8 (c.X : Int), .int .u8 (c.Y : Int), .int .u8 (c.S : Int), .int .u16 (c.PC : Int), .bool c.N, .bool c.V, .bool c.D, .bool c.I, .bool c.Z, .bool c.C] := by
    have h := BoxN.new w 28 #[.int .u8 (c.A : Int), .int .u8 (c.X : Int), .int .u8 (c.Y : Int), .int .u8 (c.S : Int), .int .u16 (c.PC : Int), .bool c.N, .bool c.V, .bool c.D, .bool c.I, .bool c.Z, .bool c.C]
    simpa only [World.size_alloc] using h
  have a2 := alw w (.cells #[.int .u8 (c.A : Int), .int .u8 (c.X : Int), .int .u8 (c.Y : Int), .int .u8 (c.S : Int), .int .u16 (c.PC : Int), .bool c.N, .bool c.V, .bool c.D, .bool c.I, .bool c.Z, .bool c.C] 28)
  have b3 := bstep b1 a2
  have y4 : BoxN ((w.alloc (.cells #[.int .u8 (c.A : Int), .int .u8 (c.X : Int), .int .u8 (c.Y : Int), .int .u8 (c.S : Int), .int .u16 (c.PC : Int), .bool c.N, .bool c.V, .bool c.D, .bool c.I, .bool c.Z, .bool c.C] 28)).alloc (.cells #[.slice a L.length cap] 30)) (w.heap.size + 1) 30 #[.slice a L.length cap] := by
    have h := BoxN.new (w.alloc (.cells #[.int .u8 (c.A : Int), .int .u8 (c.X : Int), .int .u8 (c.Y : Int), .int .u8 (c.S : Int), .int .u16 (c.PC : Int), .bool c.N, .bool c.V, .bool c.D, .bool c.I, .bool c.Z, .bool c.C] 28)) 30 #[.slice a L.length cap]
    simpa only [World.size_alloc] using h
  have a5 := alw (w.alloc (.cells #[.int .u8 (c.A : Int), .int .u8 (c.X : Int), .int .u8 (c.Y : Int), .int .u8 (c.S : Int), .int .u16 (c.PC : Int), .bool c.N, .bool c.V, .bool c.D, .bool c.I, .bool c.Z, .bool c.C] 28)) (.cells #[.slice a L.length cap] 30)
  have b6 := bstep b3 a5
  replace y1 := y1.below a5
  have y7 : BoxN (((w.alloc (.cells #[.int .u8 (c.A : Int), .int .u8 (c.X : Int), .int .u8 (c.Y : Int), .int .u8 (c.S : Int), .int .u16 (c.PC : Int), .bool c.N, .bool c.V, .bool c.D, .bool c.I, .bool c.Z, .bool c.C] 28)).alloc (.cells #[.slice a L.length cap] 30)).alloc (.cells #[.int .u8 0, .int .u8 0, .int .u8 0, .int .u8 0, .int .u16 0, .bool false, .bool false, .bool false, .bool false, .bool false, .bool false, .slice none 0 0, .slice none 0 0, .slice none 0 0, .slice none 0 0, .bool false] 35)) (w.heap.size + 1 + 1) 35 #[.int .u8 0, .int .u8 0, .int .u8 0, .int .u8 0, .int .u16 0, .bool false, .bool false, .bool false, .bool false, .bool false, .bool false, .slice none 0 0, .slice none 0 0, .slice none 0 0, .slice none 0 0, .bool false] := by
    have h := BoxN.new ((w.alloc (.cells #[.int .u8 (c.A : Int), .int .u8 (c.X : Int), .int .u8 (c.Y : Int), .int .u8 (c.S : Int), .int .u16 (c.PC : Int), .bool c.N, .bool c.V, .bool c.D, .bool c.I, .bool c.Z, .bool c.C] 28)).alloc (.cells #[.slice a L.length cap] 30)) 35 #[.int .u8 0, .int .u8 0, .int .u8 0, .int .u8 0, .int .u16 0, .bool false, .bool false, .bool false, .bool false, .bool false, .bool false, .slice none 0 0, .slice none 0 0, .slice none 0 0, .slice none 0 0, .bool false]
    simpa only [World.size_alloc] using h
  have a8 := alw ((w.alloc (.cells #[.int .u8 (c.A : Int), .int .u8 (c.X : Int), .int .u8 (c.Y : Int), .int .u8 (c.S : Int), .int .u16 (c.PC : Int), .bool c.N, .bool c.V, .bool c.D, .bool c.I, .bool c.Z, .bool c.C] 28)).alloc (.cells #[.slice a L.length cap] 30)) (.cells #[.int .u8 0, .int .u8 0, .int .u8 0, .int .u8 0, .int .u16 0, .bool false, .bool false, .bool false, .bool false, .bool false, .bool false, .slice none 0 0, .slice none 0 0, .slice none 0 0, .slice none 0 0, .bool false] 35)
  have b9 := bstep b6 a8
  replace y1 := y1.below a8
  replace y4 := y4.below a8
  clear a2 a5 a8
  have z10 : Hid ((((w.alloc (.cells #[.int .u8 (c.A : Int), .int .u8 (c.X : Int), .int .u8 (c.Y : Int), .int .u8 (c.S : Int), .int .u16 (c.PC : Int), .bool c.N, .bool c.V, .bool c.D, .bool c.I, .bool c.Z, .bool c.C] 28)).alloc (.cells #[.slice a L.length cap] 30)).alloc (.cells #[.int .u8 0, .int .u8 0, .int .u8 0, .int .u8 0, .int .u16 0, .bool false, .bool false, .bool false, .bool false, .bool false, .bool false, .slice none 0 0, .slice none 0 0, .slice none 0 0, .slice none 0 0, .bool false] 35)).heap.size = w.heap.size + 3) := Lib.hid (by simp only [World.size_alloc])
  go_enter Try.func21, Try.ntmps21
  have ld11 : (Instr.loadAt 30 (.pointer (some ⟨(w.heap.size + 1), 0, none⟩))).run Try.prog (((w.alloc (.cells #[.int .u8 (c.A : Int), .int .u8 (c.X : Int), .int .u8 (c.Y : Int), .int .u8 (c.S : Int), .int .u16 (c.PC : Int), .bool c.N, .bool c.V, .bool c.D, .bool c.I, .bool c.Z, .bool c.C] 28)).alloc (.cells #[.slice a L.length cap] 30)).alloc (.cells #[.int .u8 0, .int .u8 0, .int .u8 0, .int .u8 0, .int .u16 0, .bool false, .bool false, .bool false, .bool false, .bool false, .bool false, .slice none 0 0, .slice none 0 0, .slice none 0 0, .slice none 0 0, .bool false] 35)) = .ok (.agg #[.slice a L.length cap]) (((w.alloc (.cells #[.int .u8 (c.A : Int), .int .u8 (c.X : Int), .int .u8 (c.Y : Int), .int .u8 (c.S : Int), .int .u16 (c.PC : Int), .bool c.N, .bool c.V, .bool c.D, .bool c.I, .bool c.Z, .bool c.C] 28)).alloc (.cells #[.slice a L.length cap] 30)).alloc (.cells #[.int .u8 0, .int .u8 0, .int .u8 0, .int .u8 0, .int .u16 0, .bool false, .bool false, .bool false, .bool false, .bool false, .bool false, .slice none 0 0, .slice none 0 0, .slice none 0 0, .slice none 0 0, .bool false] 35)) := load_part y4 0 #[.slice a L.length cap] (by kernel_rfl) (by kernel_rfl) (by kernel_rfl)
  replace ld11 := Lib.hid ld11
  clear b1 b3 b6
  replace y1 := Lib.hid y1
  replace y4 := Lib.hid y4
  replace y7 := Lib.hid y7
  replace b9 := Lib.hid b9
  go_wp2_with ((with_reducible refine wpList_load_fit ld11.out ?_ ?_; focus (exact ⟨rfl, _, rfl, rfl⟩)))
  replace y1 := y1.out
  replace y4 := y4.out
  replace y7 := y7.out
  replace b9 := b9.out
  clear ld11
  refine (HO _).mono ?_
  rintro e w12 ⟨rfl, d13⟩
  replace d13 : Below (((w.alloc (.cells #[.int .u8 (c.A : Int), .int .u8 (c.X : Int), .int .u8 (c.Y : Int), .int .u8 (c.S : Int), .int .u16 (c.PC : Int), .bool c.N, .bool c.V, .bool c.D, .bool c.I, .bool c.Z, .bool c.C] 28)).alloc (.cells #[.slice a L.length cap] 30)).alloc (.cells #[.int .u8 0, .int .u8 0, .int .u8 0, .int .u8 0, .int .u16 0, .bool false, .bool false, .bool false, .bool false, .bool false, .bool false, .slice none 0 0, .slice none 0 0, .slice none 0 0, .slice none 0 0, .bool false] 35)).heap.size (((w.alloc (.cells #[.int .u8 (c.A : Int), .int .u8 (c.X : Int), .int .u8 (c.Y : Int), .int .u8 (c.S : Int), .int .u16 (c.PC : Int), .bool c.N, .bool c.V, .bool c.D, .bool c.I, .bool c.Z, .bool c.C] 28)).alloc (.cells #[.slice a L.length cap] 30)).alloc (.cells #[.int .u8 0, .int .u8 0, .int .u8 0, .int .u8 0, .int .u16 0, .bool false, .bool false, .bool false, .bool false, .bool false, .bool false, .slice none 0 0, .slice none 0 0, .slice none 0 0, .slice none 0 0, .bool false] 35)) w12 := d13
  have b14 := bstep b9 d13
  have p15 := y1.below d13
  have p16 := y4.below d13
  have p17 := y7.below d13
  have z18 := Lib.hid d13.size
  clear b9 y1 y4 y7 d13
  replace p15 := Lib.hid p15
  replace p16 := Lib.hid p16
  replace p17 := Lib.hid p17
  replace b14 := Lib.hid b14
  go_wp2_with fail
  replace p15 := p15.out
  replace p16 := p16.out
  replace p17 := p17.out
  replace b14 := b14.out
  refine (HI _).mono ?_
  rintro e w0 ⟨rfl, rfl⟩
  obtain ⟨w19, hs20, q21, sp22, z23⟩ := store_part (ty := 35) (cs' := #[.int .u8 0, .int .u8 0, .int .u8 0, .int .u8 0, .int .u16 0, .bool false, .bool false, .bool false, .bool false, .bool false, .bool false, .slice none 0 0, .slice none 0 0, .slice none 0 0, .slice none 0 0, .bool false]) p17 0 #[.int .u8 0, .int .u8 0, .int .u8 0, .int .u8 0, .int .u16 0, .bool false, .bool false, .bool false, .bool false, .bool false, .bool false, .slice none 0 0, .slice none 0 0, .slice none 0 0, .slice none 0 0, .bool false] (by kernel_rfl) (Nat.le_of_ble_eq_true (by kernel_rfl)) (by kernel_rfl) (by kernel_rfl)
  replace z23 := Lib.hid z23
  replace hs20 := Lib.hid hs20
  have u25 := Lib.hid (And.intro z10.out (And.intro z18.out z23.out))
  have b24 := b14.trans (sp22.below (by have := u25.out; omega) b14.size)
  have p26 := p15.span sp22 (by have := u25.out; omega)
  have p27 := p16.span sp22 (by have := u25.out; omega)
  have z28 := Lib.hid sp22.size
  clear b14 p15 p16 sp22
  clear p17
  replace p26 := Lib.hid p26
  replace p27 := Lib.hid p27
  replace q21 := Lib.hid q21
  replace b24 := Lib.hid b24
  go_wp2_with ((with_reducible refine wpList_store_fit hs20.out ?_ ?_; focus (exact ⟨rfl, rfl, _, _, rfl, rfl, rfl⟩)))
  replace p26 := p26.out
  replace p27 := p27.out
  replace q21 := q21.out
  replace b24 := b24.out
  exact bodyPost_ret (v := .agg #[.int .u8 0, .int .u8 0, .int .u8 0, .int .u8 0, .int .u16 0, .bool false, .bool false, .bool false, .bool false, .bool false, .bool false, .slice none 0 0, .slice none 0 0, .slice none 0 0, .slice none 0 0, .bool false]) (result_box Try.results21 q21 rfl (by kernel_rfl) (by kernel_rfl)) rfl ⟨_, _, _, _, rfl, shot_none _ _ _ b24.size, b24⟩

set_option maxRecDepth 100000 in
set_option maxHeartbeats 4000000 in
theorem specRun_no_ev (c : CpuN) (a : Option Addr) (cap : Nat) (L : List Nat) (ax : Option Addr) (capx : Nat) (E : List EvN) (n : Int) (w : World) (h : ramN L.length = true) (hn : 0 ≤ n ∧ n ≤ 120) (he : 16 < E.length) (he2 : E.length ≤ 1048576) :
    Calls Try.prog 21 #[cpuV c, ramV (.slice a L.length cap), .slice ax E.length capx, .int .i64 n] w (Shown w ⟨cpu0, [], [], [], [], false⟩) := by
  have HO := fun w => specOk_any a L.length cap w
  rw [h] at HO
  have HI := fun w => in_any n 0 120 w
  rw [show (decide (0 ≤ n) && decide (n ≤ 120)) = true by simp; omega] at HI
  clear h
  clear hn
  have b1 := Below.refl w.heap.size w
  have y1 : BoxN (w.alloc (.cells #[.int .u8 (c.A : Int), .int .u8 (c.X : Int), .int .u8 (c.Y : Int), .int .u8 (c.S : Int), .int .u16 (c.PC : Int), .bool c.N, .bool c.V, .bool c.D, .bool c.I, .bool c.Z, .bool c.C] 28)) w.heap.size 28 #[.int .u8 (c.A : Int), .int .u8 (c.X : Int), .int .u8 (c.Y : Int), .int .u8 (c.S : Int), .int .u16 (c.PC : Int), .bool c.N, .bool c.V, .bool c.D, .bool c.I, .bool c.Z, .bool c.C] := by
    have h := BoxN.new w 28 #[.int .u8 (c.A : Int), .int .u8 (c.X : Int), .int .u8 (c.Y : Int), .int .u8 (c.S : Int), .int .u16 (c.PC : Int), .bool c.N, .bool c.V, .bool c.D, .bool c.I, .bool c.Z, .bool c.C]
    simpa only [World.size_alloc] using h
  have a2 := alw w (.cells #[.int .u8 (c.A : Int), .int .u8 (c.X : Int), .int .u8 (c.Y : Int), .int .u8 (c.S : Int), .int .u16 (c.PC : Int), .bool c.N, .bool c.V, .bool c.D, .bool c.I, .bool c.Z, .bool c.C] 28)
  have b3 := bstep b1 a2
  have y4 : BoxN ((w.alloc (.cells #[.int .u8 (c.A : Int), .int .u8 (c.X : Int), .int .u8 (c.Y : Int), .int .u8 (c.S : Int), .int .u16 (c.PC : Int), .bool c.N, .bool c.V, .bool c.D, .bool c.I, .bool c.Z, .bool c.C] 28)).alloc (.cells #[.slice a L.length cap] 30)) (w.heap.size + 1) 30 #[.slice a L.length cap] := by
    have h := BoxN.new (w.alloc (.cells #[.int .u8 (c.A : Int), .int .u8 (c.X : Int), .int .u8 (c.Y : Int), .int .u8 (c.S : Int), .int .u16 (c.PC : Int), .bool c.N, .bool c.V, .bool c.D, .bool c.I, .bool c.Z, .bool c.C] 28)) 30 #[.slice a L.length cap]
    simpa only [World.size_alloc] using h
  have a5 := alw (w.alloc (.cells #[.int .u8 (c.A : Int), .int .u8 (c.X : Int), .int .u8 (c.Y : Int), .int .u8 (c.S : Int), .int .u16 (c.PC : Int), .bool c.N, .bool c.V, .bool c.D, .bool c.I, .bool c.Z, .bool c.C] 28)) (.cells #[.slice a L.length cap] 30)
  have b6 := bstep b3 a5
  replace y1 := y1.below a5
  have y7 : BoxN (((w.alloc (.cells #[.int .u8 (c.A : Int), .int .u8 (c.X : Int), .int .u8 (c.Y : Int), .int .u8 (c.S : Int), .int .u16 (c.PC : Int), .bool c.N, .bool c.V, .bool c.D, .bool c.I, .bool c.Z, .bool c.C] 28)).alloc (.cells #[.slice a L.length cap] 30)).alloc (.cells #[.int .u8 0, .int .u8 0, .int .u8 0, .int .u8 0, .int .u16 0, .bool false, .bool false, .bool false, .bool false, .bool false, .bool false, .slice none 0 0, .slice none 0 0, .slice none 0 0, .slice none 0 0, .bool false] 35)) (w.heap.size + 1 + 1) 35 #[.int .u8 0, .int .u8 0, .int .u8 0, .int .u8 0, .int .u16 0, .bool false, .bool false, .bool false, .bool false, .bool false, .bool false, .slice none 0 0, .slice none 0 0, .slice none 0 0, .slice none 0 0, .bool false] := by
    have h := BoxN.new ((w.alloc (.cells #[.int .u8 (c.A : Int), .int .u8 (c.X : Int), .int .u8 (c.Y : Int), .int .u8 (c.S : Int), .int .u16 (c.PC : Int), .bool c.N, .bool c.V, .bool c.D, .bool c.I, .bool c.Z, .bool c.C] 28)).alloc (.cells #[.slice a L.length cap] 30)) 35 #[.int .u8 0, .int .u8 0, .int .u8 0, .int .u8 0, .int .u16 0, .bool false, .bool false, .bool false, .bool false, .bool false, .bool false, .slice none 0 0, .slice none 0 0, .slice none 0 0, .slice none 0 0, .bool false]
    simpa only [World.size_alloc] using h
  have a8 := alw ((w.alloc (.cells #[.int .u8 (c.A : Int), .int .u8 (c.X : Int), .int .u8 (c.Y : Int), .int .u8 (c.S : Int), .int .u16 (c.PC : Int), .bool c.N, .bool c.V, .bool c.D, .bool c.I, .bool c.Z, .bool c.C] 28)).alloc (.cells #[.slice a L.length cap] 30)) (.cells #[.int .u8 0, .int .u8 0, .int .u8 0, .int .u8 0, .int .u16 0, .bool false, .bool false, .bool false, .bool false, .bool false, .bool false, .slice none 0 0, .slice none 0 0, .slice none 0 0, .slice none 0 0, .bool false] 35)
  have b9 := bstep b6 a8
  replace y1 := y1.below a8
  replace y4 := y4.below a8
  clear a2 a5 a8
  have z10 : Hid ((((w.alloc (.cells #[.int .u8 (c.A : Int), .int .u8 (c.X : Int), .int .u8 (c.Y : Int), .int .u8 (c.S : Int), .int .u16 (c.PC : Int), .bool c.N, .bool c.V, .bool c.D, .bool c.I, .bool c.Z, .bool c.C] 28)).alloc (.cells #[.slice a L.length cap] 30)).alloc (.cells #[.int .u8 0, .int .u8 0, .int .u8 0, .int .u8 0, .int .u16 0, .bool false, .bool false, .bool false, .bool false, .bool false, .bool false, .slice none 0 0, .slice none 0 0, .slice none 0 0, .slice none 0 0, .bool false] 35)).heap.size = w.heap.size + 3) := Lib.hid (by simp only [World.size_alloc])
  go_enter Try.func21, Try.ntmps21
  have ld11 : (Instr.loadAt 30 (.pointer (some ⟨(w.heap.size + 1), 0, none⟩))).run Try.prog (((w.alloc (.cells #[.int .u8 (c.A : Int), .int .u8 (c.X : Int), .int .u8 (c.Y : Int), .int .u8 (c.S : Int), .int .u16 (c.PC : Int), .bool c.N, .bool c.V, .bool c.D, .bool c.I, .bool c.Z, .bool c.C] 28)).alloc (.cells #[.slice a L.length cap] 30)).alloc (.cells #[.int .u8 0, .int .u8 0, .int .u8 0, .int .u8 0, .int .u16 0, .bool false, .bool false, .bool false, .bool false, .bool false, .bool false, .slice none 0 0, .slice none 0 0, .slice none 0 0, .slice none 0 0, .bool false] 35)) = .ok (.agg #[.slice a L.length cap]) (((w.alloc (.cells #[.int .u8 (c.A : Int), .int .u8 (c.X : Int), .int .u8 (c.Y : Int), .int .u8 (c.S : Int), .int .u16 (c.PC : Int), .bool c.N, .bool c.V, .bool c.D, .bool c.I, .bool c.Z, .bool c.C] 28)).alloc (.cells #[.slice a L.length cap] 30)).alloc (.cells #[.int .u8 0, .int .u8 0, .int .u8 0, .int .u8 0, .int .u16 0, .bool false, .bool false, .bool false, .bool false, .bool false, .bool false, .slice none 0 0, .slice none 0 0, .slice none 0 0, .slice none 0 0, .bool false] 35)) := load_part y4 0 #[.slice a L.length cap] (by kernel_rfl) (by kernel_rfl) (by kernel_rfl)
  replace ld11 := Lib.hid ld11
  clear b1 b3 b6
  replace y1 := Lib.hid y1
  replace y4 := Lib.hid y4
  replace y7 := Lib.hid y7
  replace b9 := Lib.hid b9
  go_wp2_with ((with_reducible refine wpList_load_fit ld11.out ?_ ?_; focus (exact ⟨rfl, _, rfl, rfl⟩)))
  replace y1 := y1.out
  replace y4 := y4.out
  replace y7 := y7.out
  replace b9 := b9.out
  clear ld11
  refine (HO _).mono ?_
  rintro e w12 ⟨rfl, d13⟩
  replace d13 : Below (((w.alloc (.cells #[.int .u8 (c.A : Int), .int .u8 (c.X : Int), .int .u8 (c.Y : Int), .int .u8 (c.S : Int), .int .u16 (c.PC : Int), .bool c.N, .bool c.V, .bool c.D, .bool c.I, .bool c.Z, .bool c.C] 28)).alloc (.cells #[.slice a L.length cap] 30)).alloc (.cells #[.int .u8 0, .int .u8 0, .int .u8 0, .int .u8 0, .int .u16 0, .bool false, .bool false, .bool false, .bool false, .bool false, .bool false, .slice none 0 0, .slice none 0 0, .slice none 0 0, .slice none 0 0, .bool false] 35)).heap.size (((w.alloc (.cells #[.int .u8 (c.A : Int), .int .u8 (c.X : Int), .int .u8 (c.Y : Int), .int .u8 (c.S : Int), .int .u16 (c.PC : Int), .bool c.N, .bool c.V, .bool c.D, .bool c.I, .bool c.Z, .bool c.C] 28)).alloc (.cells #[.slice a L.length cap] 30)).alloc (.cells #[.int .u8 0, .int .u8 0, .int .u8 0, .int .u8 0, .int .u16 0, .bool false, .bool false, .bool false, .bool false, .bool false, .bool false, .slice none 0 0, .slice none 0 0, .slice none 0 0, .slice none 0 0, .bool false] 35)) w12 := d13
  have b14 := bstep b9 d13
  have p15 := y1.below d13
  have p16 := y4.below d13
  have p17 := y7.below d13
  have z18 := Lib.hid d13.size
  clear b9 y1 y4 y7 d13
  replace p15 := Lib.hid p15
  replace p16 := Lib.hid p16
  replace p17 := Lib.hid p17
  replace b14 := Lib.hid b14
  go_wp2_with fail
  replace p15 := p15.out
  replace p16 := p16.out
  replace p17 := p17.out
  replace b14 := b14.out
  refine (HI _).mono ?_
  rintro e w0 ⟨rfl, rfl⟩
  have hlen : (16 : Int) < (E.length : Int) := by omega
  clear he he2
  obtain ⟨w19, hs20, q21, sp22, z23⟩ := store_part (ty := 35) (cs' := #[.int .u8 0, .int .u8 0, .int .u8 0, .int .u8 0, .int .u16 0, .bool false, .bool false, .bool false, .bool false, .bool false, .bool false, .slice none 0 0, .slice none 0 0, .slice none 0 0, .slice none 0 0, .bool false]) p17 0 #[.int .u8 0, .int .u8 0, .int .u8 0, .int .u8 0, .int .u16 0, .bool false, .bool false, .bool false, .bool false, .bool false, .bool false, .slice none 0 0, .slice none 0 0, .slice none 0 0, .slice none 0 0, .bool false] (by kernel_rfl) (Nat.le_of_ble_eq_true (by kernel_rfl)) (by kernel_rfl) (by kernel_rfl)
  replace z23 := Lib.hid z23
  replace hs20 := Lib.hid hs20
  have u25 := Lib.hid (And.intro z10.out (And.intro z18.out z23.out))
  have b24 := b14.trans (sp22.below (by have := u25.out; omega) b14.size)
  have p26 := p15.span sp22 (by have := u25.out; omega)
  have p27 := p16.span sp22 (by have := u25.out; omega)
  have z28 := Lib.hid sp22.size
  clear b14 p15 p16 sp22
  clear p17
  replace p26 := Lib.hid p26
  replace p27 := Lib.hid p27
  replace q21 := Lib.hid q21
  replace b24 := Lib.hid b24
  go_wp2_with ((with_reducible refine wpList_store_fit hs20.out ?_ ?_; focus (exact ⟨rfl, rfl, _, _, rfl, rfl, rfl⟩)))
  replace p26 := p26.out
  replace p27 := p27.out
  replace q21 := q21.out
  replace b24 := b24.out
  exact bodyPost_ret (v := .agg #[.int .u8 0, .int .u8 0, .int .u8 0, .int .u8 0, .int .u16 0, .bool false, .bool false, .bool false, .bool false, .bool false, .bool false, .slice none 0 0, .slice none 0 0, .slice none 0 0, .slice none 0 0, .bool false]) (result_box Try.results21 q21 rfl (by kernel_rfl) (by kernel_rfl)) rfl ⟨_, _, _, _, rfl, shot_none _ _ _ b24.size, b24⟩

set_option maxRecDepth 100000 in
set_option maxHeartbeats 40000000 in
theorem specRun_yes (c : CpuN) (a : Option Addr) (cap : Nat) (L : List Nat) (ax : Option Addr) (capx : Nat) (E : List EvN) (n : Int) (w : World) (hc : c.ok) (hl : L.length ≤ 1048576) (hE : E.length ≤ 1048576) (h : ramN L.length = true) (hn : 0 ≤ n ∧ n ≤ 120) (he : E.length ≤ 16) (hr : RowB w a L) (hre : RowG encEv w ax E) :
    Calls Try.prog 21 #[cpuV c, ramV (.slice a L.length cap), .slice ax E.length capx, .int .i64 n] w (Shown w (runN c L E n.toNat).int) := by
  have HO := fun w => specOk_any a L.length cap w
  rw [h] at HO
  have HI := fun w => in_any n 0 120 w
  rw [show (decide (0 ≤ n) && decide (n ≤ 120)) = true by simp; omega] at HI
  obtain ⟨S, hS⟩ : ∃ S, runN c L E n.toNat = S := ⟨_, rfl⟩
  rw [hS]
  have HS := Lib.hid hS
  have h0 : 0 < L.length := by have := ramN_pos h; omega
  have HRAM := Lib.hid h
  have HR := Lib.hid hr
  have HRE := Lib.hid hre
  have HC := Lib.hid hc
  have HLL := Lib.hid (And.intro hl h0)
  have hlen : ¬ (16 : Int) < (E.length : Int) := by omega
  have HEL := Lib.hid hE
  clear h hr hre hc hS hl h0 he hE
  have b1 := Below.refl w.heap.size w
  have y1 : BoxN (w.alloc (.cells #[.int .u8 (c.A : Int), .int .u8 (c.X : Int), .int .u8 (c.Y : Int), .int .u8 (c.S : Int), .int .u16 (c.PC : Int), .bool c.N, .bool c.V, .bool c.D, .bool c.I, .bool c.Z, .bool c.C] 28)) w.heap.size 28 #[.int .u8 (c.A : Int), .int .u8 (c.X : Int), .int .u8 (c.Y : Int), .int .u8 (c.S : Int), .int .u16 (c.PC : Int), .bool c.N, .bool c.V, .bool c.D, .bool c.I, .bool c.Z, .bool c.C] := by
    have h := BoxN.new w 28 #[.int .u8 (c.A : Int), .int .u8 (c.X : Int), .int .u8 (c.Y : Int), .int .u8 (c.S : Int), .int .u16 (c.PC : Int), .bool c.N, .bool c.V, .bool c.D, .bool c.I, .bool c.Z, .bool c.C]
    simpa only [World.size_alloc] using h
  have a2 := alw w (.cells #[.int .u8 (c.A : Int), .int .u8 (c.X : Int), .int .u8 (c.Y : Int), .int .u8 (c.S : Int), .int .u16 (c.PC : Int), .bool c.N, .bool c.V, .bool c.D, .bool c.I, .bool c.Z, .bool c.C] 28)
  have b3 := bstep b1 a2
  have y4 : BoxN ((w.alloc (.cells #[.int .u8 (c.A : Int), .int .u8 (c.X : Int), .int .u8 (c.Y : Int), .int .u8 (c.S : Int), .int .u16 (c.PC : Int), .bool c.N, .bool c.V, .bool c.D, .bool c.I, .bool c.Z, .bool c.C] 28)).alloc (.cells #[.slice a L.length cap] 30)) (w.heap.size + 1) 30 #[.slice a L.length cap] := by
    have h := BoxN.new (w.alloc (.cells #[.int .u8 (c.A : Int), .int .u8 (c.X : Int), .int .u8 (c.Y : Int), .int .u8 (c.S : Int), .int .u16 (c.PC : Int), .bool c.N, .bool c.V, .bool c.D, .bool c.I, .bool c.Z, .bool c.C] 28)) 30 #[.slice a L.length cap]
    simpa only [World.size_alloc] using h
  have a5 := alw (w.alloc (.cells #[.int .u8 (c.A : Int), .int .u8 (c.X : Int), .int .u8 (c.Y : Int), .int .u8 (c.S : Int), .int .u16 (c.PC : Int), .bool c.N, .bool c.V, .bool c.D, .bool c.I, .bool c.Z, .bool c.C] 28)) (.cells #[.slice a L.length cap] 30)
  have b6 := bstep b3 a5
  replace y1 := y1.below a5
  have y7 : BoxN (((w.alloc (.cells #[.int .u8 (c.A : Int), .int .u8 (c.X : Int), .int .u8 (c.Y : Int), .int .u8 (c.S : Int), .int .u16 (c.PC : Int), .bool c.N, .bool c.V, .bool c.D, .bool c.I, .bool c.Z, .bool c.C] 28)).alloc (.cells #[.slice a L.length cap] 30)).alloc (.cells #[.int .u8 0, .int .u8 0, .int .u8 0, .int .u8 0, .int .u16 0, .bool false, .bool false, .bool false, .bool false, .bool false, .bool false, .slice none 0 0, .slice none 0 0, .slice none 0 0, .slice none 0 0, .bool false] 35)) (w.heap.size + 1 + 1) 35 #[.int .u8 0, .int .u8 0, .int .u8 0, .int .u8 0, .int .u16 0, .bool false, .bool false, .bool false, .bool false, .bool false, .bool false, .slice none 0 0, .slice none 0 0, .slice none 0 0, .slice none 0 0, .bool false] := by
    have h := BoxN.new ((w.alloc (.cells #[.int .u8 (c.A : Int), .int .u8 (c.X : Int), .int .u8 (c.Y : Int), .int .u8 (c.S : Int), .int .u16 (c.PC : Int), .bool c.N, .bool c.V, .bool c.D, .bool c.I, .bool c.Z, .bool c.C] 28)).alloc (.cells #[.slice a L.length cap] 30)) 35 #[.int .u8 0, .int .u8 0, .int .u8 0, .int .u8 0, .int .u16 0, .bool false, .bool false, .bool false, .bool false, .bool false, .bool false, .slice none 0 0, .slice none 0 0, .slice none 0 0, .slice none 0 0, .bool false]
    simpa only [World.size_alloc] using h
  have a8 := alw ((w.alloc (.cells #[.int .u8 (c.A : Int), .int .u8 (c.X : Int), .int .u8 (c.Y : Int), .int .u8 (c.S : Int), .int .u16 (c.PC : Int), .bool c.N, .bool c.V, .bool c.D, .bool c.I, .bool c.Z, .bool c.C] 28)).alloc (.cells #[.slice a L.length cap] 30)) (.cells #[.int .u8 0, .int .u8 0, .int .u8 0, .int .u8 0, .int .u16 0, .bool false, .bool false, .bool false, .bool false, .bool false, .bool false, .slice none 0 0, .slice none 0 0, .slice none 0 0, .slice none 0 0, .bool false] 35)
  have b9 := bstep b6 a8
  replace y1 := y1.below a8
  replace y4 := y4.below a8
  clear a2 a5 a8
  have z10 : Hid ((((w.alloc (.cells #[.int .u8 (c.A : Int), .int .u8 (c.X : Int), .int .u8 (c.Y : Int), .int .u8 (c.S : Int), .int .u16 (c.PC : Int), .bool c.N, .bool c.V, .bool c.D, .bool c.I, .bool c.Z, .bool c.C] 28)).alloc (.cells #[.slice a L.length cap] 30)).alloc (.cells #[.int .u8 0, .int .u8 0, .int .u8 0, .int .u8 0, .int .u16 0, .bool false, .bool false, .bool false, .bool false, .bool false, .bool false, .slice none 0 0, .slice none 0 0, .slice none 0 0, .slice none 0 0, .bool false] 35)).heap.size = w.heap.size + 3) := Lib.hid (by simp only [World.size_alloc])
  go_enter Try.func21, Try.ntmps21
  have ld11 : (Instr.loadAt 30 (.pointer (some ⟨(w.heap.size + 1), 0, none⟩))).run Try.prog (((w.alloc (.cells #[.int .u8 (c.A : Int), .int .u8 (c.X : Int), .int .u8 (c.Y : Int), .int .u8 (c.S : Int), .int .u16 (c.PC : Int), .bool c.N, .bool c.V, .bool c.D, .bool c.I, .bool c.Z, .bool c.C] 28)).alloc (.cells #[.slice a L.length cap] 30)).alloc (.cells #[.int .u8 0, .int .u8 0, .int .u8 0, .int .u8 0, .int .u16 0, .bool false, .bool false, .bool false, .bool false, .bool false, .bool false, .slice none 0 0, .slice none 0 0, .slice none 0 0, .slice none 0 0, .bool false] 35)) = .ok (.agg #[.slice a L.length cap]) (((w.alloc (.cells #[.int .u8 (c.A : Int), .int .u8 (c.X : Int), .int .u8 (c.Y : Int), .int .u8 (c.S : Int), .int .u16 (c.PC : Int), .bool c.N, .bool c.V, .bool c.D, .bool c.I, .bool c.Z, .bool c.C] 28)).alloc (.cells #[.slice a L.length cap] 30)).alloc (.cells #[.int .u8 0, .int .u8 0, .int .u8 0, .int .u8 0, .int .u16 0, .bool false, .bool false, .bool false, .bool false, .bool false, .bool false, .slice none 0 0, .slice none 0 0, .slice none 0 0, .slice none 0 0, .bool false] 35)) := load_part y4 0 #[.slice a L.length cap] (by kernel_rfl) (by kernel_rfl) (by kernel_rfl)
  replace ld11 := Lib.hid ld11
  clear b1 b3 b6
  replace y1 := Lib.hid y1
  replace y4 := Lib.hid y4
  replace y7 := Lib.hid y7
  replace b9 := Lib.hid b9
  go_wp2_with ((with_reducible refine wpList_load_fit ld11.out ?_ ?_; focus (exact ⟨rfl, _, rfl, rfl⟩)))
  replace y1 := y1.out
  replace y4 := y4.out
  replace y7 := y7.out
  replace b9 := b9.out
  clear ld11
  refine (HO _).mono ?_
  rintro e w12 ⟨rfl, d13⟩
  replace d13 : Below (((w.alloc (.cells #[.int .u8 (c.A : Int), .int .u8 (c.X : Int), .int .u8 (c.Y : Int), .int .u8 (c.S : Int), .int .u16 (c.PC : Int), .bool c.N, .bool c.V, .bool c.D, .bool c.I, .bool c.Z, .bool c.C] 28)).alloc (.cells #[.slice a L.length cap] 30)).alloc (.cells #[.int .u8 0, .int .u8 0, .int .u8 0, .int .u8 0, .int .u16 0, .bool false, .bool false, .bool false, .bool false, .bool false, .bool false, .slice none 0 0, .slice none 0 0, .slice none 0 0, .slice none 0 0, .bool false] 35)).heap.size (((w.alloc (.cells #[.int .u8 (c.A : Int), .int .u8 (c.X : Int), .int .u8 (c.Y : Int), .int .u8 (c.S : Int), .int .u16 (c.PC : Int), .bool c.N, .bool c.V, .bool c.D, .bool c.I, .bool c.Z, .bool c.C] 28)).alloc (.cells #[.slice a L.length cap] 30)).alloc (.cells #[.int .u8 0, .int .u8 0, .int .u8 0, .int .u8 0, .int .u16 0, .bool false, .bool false, .bool false, .bool false, .bool false, .bool false, .slice none 0 0, .slice none 0 0, .slice none 0 0, .slice none 0 0, .bool false] 35)) w12 := d13
  have b14 := bstep b9 d13
  have p15 := y1.below d13
  have p16 := y4.below d13
  have p17 := y7.below d13
  have z18 := Lib.hid d13.size
  clear b9 y1 y4 y7 d13
  replace p15 := Lib.hid p15
  replace p16 := Lib.hid p16
  replace p17 := Lib.hid p17
  replace b14 := Lib.hid b14
  go_wp2_with fail
  replace p15 := p15.out
  replace p16 := p16.out
  replace p17 := p17.out
  replace b14 := b14.out
  refine (HI _).mono ?_
  rintro e w0 ⟨rfl, rfl⟩
  replace p15 := Lib.hid p15
  replace p16 := Lib.hid p16
  replace p17 := Lib.hid p17
  replace b14 := Lib.hid b14
  go_wp2_with fail
  replace p15 := p15.out
  replace p16 := p16.out
  replace p17 := p17.out
  replace b14 := b14.out
  have u19 := Lib.hid (And.intro z10.out z18.out)
  go_cut [9] from 27 to 33 (fun v W => ∃ g mc P, v = .pointer (some ⟨P, 0, none⟩) ∧ BoxN W P 35 (shotCells c (.slice (some ⟨g, 0, none⟩) L.length mc) (.slice none 0 0) (.slice none 0 0) (.slice none 0 0) false) ∧ SegB W g (g + 1) (.slice (some ⟨g, 0, none⟩) L.length mc) L ∧ (w12.heap.size ≤ g ∧ w12.heap.size ≤ P ∧ g ≠ P ∧ g < W.heap.size ∧ P < W.heap.size) ∧ Below w12.heap.size w12 W)
  case first =>
    rename_i J K' hJ hK
    refine specRunReg c L a cap HLL.out.1 HLL.out.2 w12 w.heap.size (w.heap.size + 1) p15 p16 (HR.out.below b14) _ rfl rfl rfl _ ?_ _ (by kernel_rfl) _
    intro a' W hf ht
    obtain ⟨g, mc, P, e9, ht⟩ := ht
    exact hK _ _ (Met.intro (hJ _ _ ⟨a'.eval (.tmp 9), a'.eval (.tmp 27), a'.eval (.tmp 28), a'.eval (.tmp 29), a'.eval (.tmp 30), a'.eval (.tmp 31), a'.eval (.tmp 32), a'.eval (.tmp 33), ⟨g, mc, P, e9, ht⟩, hf.eq.trans (by kernel_rfl)⟩))
  obtain ⟨W3, hW⟩ : ∃ W, W = wc := ⟨_, rfl⟩
  subst hW
  obtain ⟨g, mc, P, rfl, p0, s0, ar, d3⟩ := hcut
  have HI0 : Hid (InvS w c L E P 0 W3) := Lib.hid ⟨beginN c L, [], _, _, _, _, _, _, _, _, _, _, _, _, g, g + 1, g, g, g, g, g, g, rfl, rfl, rfl, rfl, rfl, Under.begin c HC.out L E, p0, p17.below d3, s0, ⟨World.ownsRow_nil _ _ _ _, fun k ek => by simp [Value.ownBlock] at ek⟩, ⟨World.ownsRow_nil _ _ _ _, fun k ek => by simp [Value.ownBlock] at ek⟩, ⟨World.ownsRow_nil _ _ _ _, fun k ek => by simp [Value.ownBlock] at ek⟩, by have := u19.out; unfold Places; omega, bstep b14 d3⟩
  clear p0 s0 ar d3 p15 p16 p17 b14 z10 z18 u19
  clear HO HI
  go_wp2_with fail
  go_loopw [10, 11, 12] (fun i _ _ wr => ∃ k : Nat, i = .int .i64 k ∧ (k : Int) ≤ n ∧ Hid (InvS w c L E P k wr)) (fun i _ _ _ => n.toNat - (intOf i).toNat)
  case atStart => exact ⟨0, rfl, by omega, HI0⟩
  case round =>
    clear HI0
    obtain ⟨k, rfl, hk, HIn⟩ := hrel
    obtain ⟨s, st, ma, n1, mc, ta, n2, tc, sa, n3, sc, pa, n4, pc, l1, h1, l2, h2, l3, h3, l4, h4, rfl, rfl, rfl, rfl, hst, hU, pI, oI, mI, tI, sI, qI, hz, bI⟩ := HIn.out
    have zI := Lib.hid hz
    unfold Places at zI
    have HU := Lib.hid hU
    have HSM := Lib.hid hst
    have HST : Hid (st.length = k) := Lib.hid (by rw [hst, List.length_map]; exact hU.starts)
    have HK : Hid (k ≤ 120) := Lib.hid (by omega)
    have hcok := Lib.hid hU.ok
    have hram := Lib.hid hU.ram
    have kn : Hid (n.toNat = n.toNat) := Lib.hid rfl
    clear hz hU hst HIn kn
    by_cases hp : (k : Int) < n
    · have HA1 := fun W (hb : Below w.heap.size w W) => specAsked_any ax capx E k true W HEL.out (by omega) (HRE.out.below hb)
      have HA2 := fun W (hb : Below w.heap.size w W) => specAsked_any ax capx E k false W HEL.out (by omega) (HRE.out.below hb)
      obtain ⟨a1, ha1⟩ : ∃ a1, askedN E k true = a1 := ⟨_, rfl⟩
      obtain ⟨a2, ha2⟩ : ∃ a2, askedN E k false = a2 := ⟨_, rfl⟩
      obtain ⟨fi, hfi⟩ : ∃ fi, s.cpu.I = fi := ⟨_, rfl⟩
      rw [ha1] at HA1
      rw [ha2] at HA2
      cases a1 with
      | true =>
        obtain ⟨r, hr⟩ : ∃ r, servedN s.cpu s.mem true = r := ⟨_, rfl⟩
        have hrm := mI.row
        have hR := ramN_of HRAM.out hram.out
        have hlen8 := servedN_len s.cpu s.mem true
        have hmem := servedN_mem (c := s.cpu) (nmi := true) hR
        have hmany := servedN_many (c := s.cpu) (nmi := true) hR
        have hok1 := servedN_ok hcok.out hrm.all true
        rw [hr] at hlen8 hmem hmany hok1
        have HSV := fun a cap W row => specServe_any s.cpu hcok.out true a cap s.mem W row
        rw [hr] at HSV
        have hunit : unitN E k s = s.on r := by unfold unitN; rw [if_pos ha1]; rw [hr]
        clear hr
        have HL8 := Lib.hid hlen8.2
        have HL0 := Lib.hid hmany
        have HUN : Hid (Under c L E (k + 1) (s.on r)) := Lib.hid (HU.out.on hunit hok1 hmem hlen8.2)
        clear hlen8 hmem hmany hok1 hrm hR hunit
        clear ha1 ha2 hfi HA2
        have c301 := pI.cell 15 (.bool false) rfl
        have ld302 : (Instr.loadAt 28 (.pointer (some ⟨P, 0, none⟩))).run Try.prog wr = .ok (.agg #[.int .u8 (s.cpu.A : Int), .int .u8 (s.cpu.X : Int), .int .u8 (s.cpu.Y : Int), .int .u8 (s.cpu.S : Int), .int .u16 (s.cpu.PC : Int), .bool s.cpu.N, .bool s.cpu.V, .bool s.cpu.D, .bool s.cpu.I, .bool s.cpu.Z, .bool s.cpu.C]) wr := load_part pI 0 #[.int .u8 (s.cpu.A : Int), .int .u8 (s.cpu.X : Int), .int .u8 (s.cpu.Y : Int), .int .u8 (s.cpu.S : Int), .int .u16 (s.cpu.PC : Int), .bool s.cpu.N, .bool s.cpu.V, .bool s.cpu.D, .bool s.cpu.I, .bool s.cpu.Z, .bool s.cpu.C] (by kernel_rfl) (by kernel_rfl) (by kernel_rfl)
        replace ld302 := Lib.hid ld302
        have y303 : BoxN (wr.alloc (.cells #[.int .u8 (s.cpu.A : Int), .int .u8 (s.cpu.X : Int), .int .u8 (s.cpu.Y : Int), .int .u8 (s.cpu.S : Int), .int .u16 (s.cpu.PC : Int), .bool s.cpu.N, .bool s.cpu.V, .bool s.cpu.D, .bool s.cpu.I, .bool s.cpu.Z, .bool s.cpu.C] 28)) wr.heap.size 28 #[.int .u8 (s.cpu.A : Int), .int .u8 (s.cpu.X : Int), .int .u8 (s.cpu.Y : Int), .int .u8 (s.cpu.S : Int), .int .u16 (s.cpu.PC : Int), .bool s.cpu.N, .bool s.cpu.V, .bool s.cpu.D, .bool s.cpu.I, .bool s.cpu.Z, .bool s.cpu.C] := by
          have h := BoxN.new wr 28 #[.int .u8 (s.cpu.A : Int), .int .u8 (s.cpu.X : Int), .int .u8 (s.cpu.Y : Int), .int .u8 (s.cpu.S : Int), .int .u16 (s.cpu.PC : Int), .bool s.cpu.N, .bool s.cpu.V, .bool s.cpu.D, .bool s.cpu.I, .bool s.cpu.Z, .bool s.cpu.C]
          simpa only [World.size_alloc] using h
        have a304 := alw wr (.cells #[.int .u8 (s.cpu.A : Int), .int .u8 (s.cpu.X : Int), .int .u8 (s.cpu.Y : Int), .int .u8 (s.cpu.S : Int), .int .u16 (s.cpu.PC : Int), .bool s.cpu.N, .bool s.cpu.V, .bool s.cpu.D, .bool s.cpu.I, .bool s.cpu.Z, .bool s.cpu.C] 28)
        have b305 := bstep bI a304
        replace pI := pI.below a304
        replace oI := oI.below a304
        replace mI := mI.below a304
        replace tI := tI.below a304
        replace sI := sI.below a304
        replace qI := qI.below a304
        have y306 : BoxN ((wr.alloc (.cells #[.int .u8 (s.cpu.A : Int), .int .u8 (s.cpu.X : Int), .int .u8 (s.cpu.Y : Int), .int .u8 (s.cpu.S : Int), .int .u16 (s.cpu.PC : Int), .bool s.cpu.N, .bool s.cpu.V, .bool s.cpu.D, .bool s.cpu.I, .bool s.cpu.Z, .bool s.cpu.C] 28)).alloc (.cells #[] 105)) (wr.heap.size + 1) 105 #[] := by
          have h := BoxN.new (wr.alloc (.cells #[.int .u8 (s.cpu.A : Int), .int .u8 (s.cpu.X : Int), .int .u8 (s.cpu.Y : Int), .int .u8 (s.cpu.S : Int), .int .u16 (s.cpu.PC : Int), .bool s.cpu.N, .bool s.cpu.V, .bool s.cpu.D, .bool s.cpu.I, .bool s.cpu.Z, .bool s.cpu.C] 28)) 105 #[]
          simpa only [World.size_alloc] using h
        have a307 := alw (wr.alloc (.cells #[.int .u8 (s.cpu.A : Int), .int .u8 (s.cpu.X : Int), .int .u8 (s.cpu.Y : Int), .int .u8 (s.cpu.S : Int), .int .u16 (s.cpu.PC : Int), .bool s.cpu.N, .bool s.cpu.V, .bool s.cpu.D, .bool s.cpu.I, .bool s.cpu.Z, .bool s.cpu.C] 28)) (.cells #[] 105)
        have b308 := bstep b305 a307
        replace y303 := y303.below a307
        replace pI := pI.below a307
        replace oI := oI.below a307
        replace mI := mI.below a307
        replace tI := tI.below a307
        replace sI := sI.below a307
        replace qI := qI.below a307
        clear a304 a307
        have z309 : Hid (((wr.alloc (.cells #[.int .u8 (s.cpu.A : Int), .int .u8 (s.cpu.X : Int), .int .u8 (s.cpu.Y : Int), .int .u8 (s.cpu.S : Int), .int .u16 (s.cpu.PC : Int), .bool s.cpu.N, .bool s.cpu.V, .bool s.cpu.D, .bool s.cpu.I, .bool s.cpu.Z, .bool s.cpu.C] 28)).alloc (.cells #[] 105)).heap.size = wr.heap.size + 2) := Lib.hid (by simp only [World.size_alloc])
        clear bI b305
        replace pI := Lib.hid pI
        replace oI := Lib.hid oI
        replace y303 := Lib.hid y303
        replace mI := Lib.hid mI
        replace tI := Lib.hid tI
        replace sI := Lib.hid sI
        replace qI := Lib.hid qI
        replace b308 := Lib.hid b308
        go_wp2_with ((with_reducible refine wpList_load_fit ld302.out ?_ ?_; focus (exact ⟨rfl, _, rfl, rfl⟩)))
        replace pI := pI.out
        replace oI := oI.out
        replace y303 := y303.out
        replace mI := mI.out
        replace tI := tI.out
        replace sI := sI.out
        replace qI := qI.out
        replace b308 := b308.out
        clear c301 ld302
        refine (HA1 _ b308).mono ?_
        rintro e w310 ⟨rfl, d311⟩
        replace d311 : Below ((wr.alloc (.cells #[.int .u8 (s.cpu.A : Int), .int .u8 (s.cpu.X : Int), .int .u8 (s.cpu.Y : Int), .int .u8 (s.cpu.S : Int), .int .u16 (s.cpu.PC : Int), .bool s.cpu.N, .bool s.cpu.V, .bool s.cpu.D, .bool s.cpu.I, .bool s.cpu.Z, .bool s.cpu.C] 28)).alloc (.cells #[] 105)).heap.size ((wr.alloc (.cells #[.int .u8 (s.cpu.A : Int), .int .u8 (s.cpu.X : Int), .int .u8 (s.cpu.Y : Int), .int .u8 (s.cpu.S : Int), .int .u16 (s.cpu.PC : Int), .bool s.cpu.N, .bool s.cpu.V, .bool s.cpu.D, .bool s.cpu.I, .bool s.cpu.Z, .bool s.cpu.C] 28)).alloc (.cells #[] 105)) w310 := d311
        have b312 := bstep b308 d311
        have p313 := pI.below d311
        have p314 := oI.below d311
        have p315 := y303.below d311
        have s316 := mI.below d311
        have s317 := tI.below d311
        have s318 := sI.below d311
        have s319 := qI.below d311
        have z320 := Lib.hid d311.size
        clear b308 pI oI y303 mI tI sI qI d311
        have ld321 : (Instr.loadAt 28 (.pointer (some ⟨P, 0, none⟩))).run Try.prog w310 = .ok (.agg #[.int .u8 (s.cpu.A : Int), .int .u8 (s.cpu.X : Int), .int .u8 (s.cpu.Y : Int), .int .u8 (s.cpu.S : Int), .int .u16 (s.cpu.PC : Int), .bool s.cpu.N, .bool s.cpu.V, .bool s.cpu.D, .bool s.cpu.I, .bool s.cpu.Z, .bool s.cpu.C]) w310 := load_part p313 0 #[.int .u8 (s.cpu.A : Int), .int .u8 (s.cpu.X : Int), .int .u8 (s.cpu.Y : Int), .int .u8 (s.cpu.S : Int), .int .u16 (s.cpu.PC : Int), .bool s.cpu.N, .bool s.cpu.V, .bool s.cpu.D, .bool s.cpu.I, .bool s.cpu.Z, .bool s.cpu.C] (by kernel_rfl) (by kernel_rfl) (by kernel_rfl)
        replace ld321 := Lib.hid ld321
        have ld322 : (Instr.loadAt 30 (.pointer (some ⟨P, 11, none⟩))).run Try.prog w310 = .ok (.agg #[.slice ma s.mem.length mc]) w310 := load_part p313 11 #[.slice ma s.mem.length mc] (by kernel_rfl) (by kernel_rfl) (by kernel_rfl)
        replace ld322 := Lib.hid ld322
        replace p313 := Lib.hid p313
        replace p314 := Lib.hid p314
        replace p315 := Lib.hid p315
        replace s316 := Lib.hid s316
        replace s317 := Lib.hid s317
        replace s318 := Lib.hid s318
        replace s319 := Lib.hid s319
        replace b312 := Lib.hid b312
        go_wp2_with (first | (with_reducible refine wpList_load_fit ld321.out ?_ ?_; focus (exact ⟨rfl, _, rfl, rfl⟩)) | (with_reducible refine wpList_load_fit ld322.out ?_ ?_; focus (exact ⟨rfl, _, rfl, rfl⟩)))
        replace p313 := p313.out
        replace p314 := p314.out
        replace p315 := p315.out
        replace s316 := s316.out
        replace s317 := s317.out
        replace s318 := s318.out
        replace s319 := s319.out
        replace b312 := b312.out
        clear ld321 ld322
        refine (HSV _ _ _ s316.row).mono ?_
        rintro e w323 hst
        obtain ⟨a325, c326, a327, c328, lo329, hi330, lo331, hi332, rfl, s333, s334, r335, d324⟩ := hst.three
        clear hst
        have r335h := Lib.hid r335
        have b336 := bstep b312 d324
        have p337 := p313.below d324
        have p338 := p314.below d324
        have p339 := p315.below d324
        have s340 := s316.below d324
        have s341 := s317.below d324
        have s342 := s318.below d324
        have s343 := s319.below d324
        have z344 := Lib.hid d324.size
        clear b312 p313 p314 p315 s316 s317 s318 s319 r335 d324
        obtain ⟨w345, hs346, q347, sp348, z349⟩ := store_part (ty := 28) (cs' := #[.int .u8 (r.1.A : Int), .int .u8 (r.1.X : Int), .int .u8 (r.1.Y : Int), .int .u8 (r.1.S : Int), .int .u16 (r.1.PC : Int), .bool r.1.N, .bool r.1.V, .bool r.1.D, .bool r.1.I, .bool r.1.Z, .bool r.1.C, .slice ma s.mem.length mc, .slice ta s.trace.length tc, .slice sa st.length sc, .slice pa s.cpus.length pc, .bool false]) p337 0 #[.int .u8 (r.1.A : Int), .int .u8 (r.1.X : Int), .int .u8 (r.1.Y : Int), .int .u8 (r.1.S : Int), .int .u16 (r.1.PC : Int), .bool r.1.N, .bool r.1.V, .bool r.1.D, .bool r.1.I, .bool r.1.Z, .bool r.1.C] (by kernel_rfl) (Nat.le_of_ble_eq_true (by kernel_rfl)) (by kernel_rfl) (by kernel_rfl)
        replace z349 := Lib.hid z349
        replace hs346 := Lib.hid hs346
        have u351 := Lib.hid (And.intro zI.out (And.intro z309.out (And.intro z320.out (And.intro r335h.out (And.intro z344.out z349.out)))))
        have b350 := b336.trans (sp348.below (by have := u351.out; omega) b336.size)
        have p352 := p338.span sp348 (by have := u351.out; omega)
        have p353 := p339.span sp348 (by have := u351.out; omega)
        have s354 := s340.span sp348 (by have := u351.out; omega)
        have s355 := s341.span sp348 (by have := u351.out; omega)
        have s356 := s342.span sp348 (by have := u351.out; omega)
        have s357 := s343.span sp348 (by have := u351.out; omega)
        have s358 := s333.span sp348 (by have := u351.out; omega)
        have s359 := s334.span sp348 (by have := u351.out; omega)
        have z360 := Lib.hid sp348.size
        clear b336 p338 p339 s340 s341 s342 s343 s333 s334 sp348
        obtain ⟨w361, hs362, q363, sp364, z365⟩ := store_part (ty := 30) (cs' := #[.int .u8 (r.1.A : Int), .int .u8 (r.1.X : Int), .int .u8 (r.1.Y : Int), .int .u8 (r.1.S : Int), .int .u16 (r.1.PC : Int), .bool r.1.N, .bool r.1.V, .bool r.1.D, .bool r.1.I, .bool r.1.Z, .bool r.1.C, .slice a325 r.2.mem.length c326, .slice ta s.trace.length tc, .slice sa st.length sc, .slice pa s.cpus.length pc, .bool false]) q347 11 #[.slice a325 r.2.mem.length c326] (by kernel_rfl) (Nat.le_of_ble_eq_true (by kernel_rfl)) (by kernel_rfl) (by kernel_rfl)
        replace z365 := Lib.hid z365
        replace hs362 := Lib.hid hs362
        have u367 := Lib.hid (And.intro u351.out (And.intro z360.out z365.out))
        have b366 := b350.trans (sp364.below (by have := u367.out; omega) b350.size)
        have p368 := p352.span sp364 (by have := u367.out; omega)
        have p369 := p353.span sp364 (by have := u367.out; omega)
        have s370 := s354.span sp364 (by have := u367.out; omega)
        have s371 := s355.span sp364 (by have := u367.out; omega)
        have s372 := s356.span sp364 (by have := u367.out; omega)
        have s373 := s357.span sp364 (by have := u367.out; omega)
        have s374 := s358.span sp364 (by have := u367.out; omega)
        have s375 := s359.span sp364 (by have := u367.out; omega)
        have z376 := Lib.hid sp364.size
        clear b350 p352 p353 s354 s355 s356 s357 s358 s359 sp364
        have ld377 : (Instr.loadAt 4 (.pointer (some ⟨P, 15, none⟩))).run Try.prog w361 = .ok (.bool false) w361 := by
          have hc := q363.cell 15 (.bool false) rfl
          simp [go_sem, hc]
        replace ld377 := Lib.hid ld377
        have ld378 : (Instr.loadAt 32 (.pointer (some ⟨P, 13, none⟩))).run Try.prog w361 = .ok (.slice sa st.length sc) w361 := by
          have hc := q363.cell 13 (.slice sa st.length sc) rfl
          simp [go_sem, hc]
        replace ld378 := Lib.hid ld378
        have ld379 : (Instr.loadAt 31 (.pointer (some ⟨P, 12, none⟩))).run Try.prog w361 = .ok (.slice ta s.trace.length tc) w361 := by
          have hc := q363.cell 12 (.slice ta s.trace.length tc) rfl
          simp [go_sem, hc]
        replace ld379 := Lib.hid ld379
        have y380 : BoxN (w361.alloc (.cells #[.int .i64 (s.trace.length : Int)] 3)) w361.heap.size 3 #[.int .i64 (s.trace.length : Int)] := by
          have h := BoxN.new w361 3 #[.int .i64 (s.trace.length : Int)]
          simpa only [World.size_alloc] using h
        have a381 := alw w361 (.cells #[.int .i64 (s.trace.length : Int)] 3)
        have b382 := bstep b366 a381
        replace p368 := p368.below a381
        replace p369 := p369.below a381
        replace q363 := q363.below a381
        replace s371 := s371.below a381
        replace s372 := s372.below a381
        replace s373 := s373.below a381
        replace s375 := s375.below a381
        replace s374 := s374.below a381
        clear a381
        have z383 : Hid ((w361.alloc (.cells #[.int .i64 (s.trace.length : Int)] 3)).heap.size = w361.heap.size + 1) := Lib.hid (by simp only [World.size_alloc])
        have u392 := Lib.hid (And.intro u367.out (And.intro z376.out z383.out))
        obtain ⟨g384, c385, w386, h387, s388, d389, r390, r391⟩ := starts_append s372 (by have := u392.out; omega) (by have := u392.out; omega) (s.trace.length : Int) _ y380 (by have := HST.out; have := HK.out; omega) 1
        replace r390 := Lib.hid r390
        replace r391 := Lib.hid r391
        replace h387 := Lib.hid h387
        have u394 := Lib.hid (And.intro u392.out (And.intro r390.out r391.out))
        have b393 := b382.trans (d389.below (by have := u394.out; omega) b382.size)
        have p395 := p368.span d389 (by have := u394.out; omega)
        have p396 := p369.span d389 (by have := u394.out; omega)
        have p397 := q363.span d389 (by have := u394.out; omega)
        have p398 := y380.span d389 (by have := u394.out; omega)
        have s399 := s371.span d389 (by have := u394.out; omega)
        have s400 := s373.span d389 (by have := u394.out; omega)
        have s401 := s375.span d389 (by have := u394.out; omega)
        have s402 := s374.span d389 (by have := u394.out; omega)
        have z403 := Lib.hid d389.size
        clear b382 p368 p369 q363 y380 s371 s373 s375 s374 d389
        obtain ⟨w404, hs405, q406, sp407, z408⟩ := store_one (ty := 32) (cs' := #[.int .u8 (r.1.A : Int), .int .u8 (r.1.X : Int), .int .u8 (r.1.Y : Int), .int .u8 (r.1.S : Int), .int .u16 (r.1.PC : Int), .bool r.1.N, .bool r.1.V, .bool r.1.D, .bool r.1.I, .bool r.1.Z, .bool r.1.C, .slice a325 r.2.mem.length c326, .slice ta s.trace.length tc, .slice (some ⟨g384, 0, none⟩) (st.length + 1) c385, .slice pa s.cpus.length pc, .bool false]) p397 13 (.slice (some ⟨g384, 0, none⟩) (st.length + 1) c385) (by kernel_rfl) (by
          have hc := p397.cell 13 (.slice sa st.length sc) rfl
          have hf := p397.frozen 13
          simp [go_sem, hc, hf])
        replace z408 := Lib.hid z408
        replace hs405 := Lib.hid hs405
        have u410 := Lib.hid (And.intro u394.out (And.intro z403.out z408.out))
        have b409 := b393.trans (sp407.below (by have := u410.out; omega) b393.size)
        have p411 := p395.span sp407 (by have := u410.out; omega)
        have p412 := p396.span sp407 (by have := u410.out; omega)
        have s413 := s399.span sp407 (by have := u410.out; omega)
        have s414 := s400.span sp407 (by have := u410.out; omega)
        have s415 := s401.span sp407 (by have := u410.out; omega)
        have s416 := s402.span sp407 (by have := u410.out; omega)
        have s417 := s388.span sp407 (by have := u410.out; omega)
        have z418 := Lib.hid sp407.size
        clear b393 p395 p396 s399 s400 s401 s402 s388 sp407
        have ld419 : (Instr.loadAt 33 (.pointer (some ⟨P, 14, none⟩))).run Try.prog w404 = .ok (.slice pa s.cpus.length pc) w404 := by
          have hc := q406.cell 14 (.slice pa s.cpus.length pc) rfl
          simp [go_sem, hc]
        replace ld419 := Lib.hid ld419
        have ld420 : (Instr.loadAt 28 (.pointer (some ⟨wr.heap.size, 0, none⟩))).run Try.prog w404 = .ok (.agg #[.int .u8 (s.cpu.A : Int), .int .u8 (s.cpu.X : Int), .int .u8 (s.cpu.Y : Int), .int .u8 (s.cpu.S : Int), .int .u16 (s.cpu.PC : Int), .bool s.cpu.N, .bool s.cpu.V, .bool s.cpu.D, .bool s.cpu.I, .bool s.cpu.Z, .bool s.cpu.C]) w404 := load_part p412 0 #[.int .u8 (s.cpu.A : Int), .int .u8 (s.cpu.X : Int), .int .u8 (s.cpu.Y : Int), .int .u8 (s.cpu.S : Int), .int .u16 (s.cpu.PC : Int), .bool s.cpu.N, .bool s.cpu.V, .bool s.cpu.D, .bool s.cpu.I, .bool s.cpu.Z, .bool s.cpu.C] (by kernel_rfl) (by kernel_rfl) (by kernel_rfl)
        replace ld420 := Lib.hid ld420
        have y421 : BoxN (w404.alloc (.cells #[.int .u8 (s.cpu.A : Int), .int .u8 (s.cpu.X : Int), .int .u8 (s.cpu.Y : Int), .int .u8 (s.cpu.S : Int), .int .u16 (s.cpu.PC : Int), .bool s.cpu.N, .bool s.cpu.V, .bool s.cpu.D, .bool s.cpu.I, .bool s.cpu.Z, .bool s.cpu.C] 28)) w404.heap.size 28 #[.int .u8 (s.cpu.A : Int), .int .u8 (s.cpu.X : Int), .int .u8 (s.cpu.Y : Int), .int .u8 (s.cpu.S : Int), .int .u16 (s.cpu.PC : Int), .bool s.cpu.N, .bool s.cpu.V, .bool s.cpu.D, .bool s.cpu.I, .bool s.cpu.Z, .bool s.cpu.C] := by
          have h := BoxN.new w404 28 #[.int .u8 (s.cpu.A : Int), .int .u8 (s.cpu.X : Int), .int .u8 (s.cpu.Y : Int), .int .u8 (s.cpu.S : Int), .int .u16 (s.cpu.PC : Int), .bool s.cpu.N, .bool s.cpu.V, .bool s.cpu.D, .bool s.cpu.I, .bool s.cpu.Z, .bool s.cpu.C]
          simpa only [World.size_alloc] using h
        have a422 := alw w404 (.cells #[.int .u8 (s.cpu.A : Int), .int .u8 (s.cpu.X : Int), .int .u8 (s.cpu.Y : Int), .int .u8 (s.cpu.S : Int), .int .u16 (s.cpu.PC : Int), .bool s.cpu.N, .bool s.cpu.V, .bool s.cpu.D, .bool s.cpu.I, .bool s.cpu.Z, .bool s.cpu.C] 28)
        have b423 := bstep b409 a422
        replace p411 := p411.below a422
        replace p412 := p412.below a422
        replace q406 := q406.below a422
        replace s413 := s413.below a422
        replace s414 := s414.below a422
        replace s415 := s415.below a422
        replace s416 := s416.below a422
        replace s417 := s417.below a422
        clear a422
        have z424 : Hid ((w404.alloc (.cells #[.int .u8 (s.cpu.A : Int), .int .u8 (s.cpu.X : Int), .int .u8 (s.cpu.Y : Int), .int .u8 (s.cpu.S : Int), .int .u16 (s.cpu.PC : Int), .bool s.cpu.N, .bool s.cpu.V, .bool s.cpu.D, .bool s.cpu.I, .bool s.cpu.Z, .bool s.cpu.C] 28)).heap.size = w404.heap.size + 1) := Lib.hid (by simp only [World.size_alloc])
        have u433 := Lib.hid (And.intro u410.out (And.intro z418.out z424.out))
        obtain ⟨g425, c426, w427, h428, s429, d430, r431, r432⟩ := cpus_append s414 (by have := u433.out; omega) (by have := u433.out; omega) s.cpu _ y421 (by have := HU.out.cpus; have := HK.out; omega) 1
        replace r431 := Lib.hid r431
        replace r432 := Lib.hid r432
        replace h428 := Lib.hid h428
        have u435 := Lib.hid (And.intro u433.out (And.intro r431.out r432.out))
        have b434 := b423.trans (d430.below (by have := u435.out; omega) b423.size)
        have p436 := p411.span d430 (by have := u435.out; omega)
        have p437 := p412.span d430 (by have := u435.out; omega)
        have p438 := q406.span d430 (by have := u435.out; omega)
        have p439 := y421.span d430 (by have := u435.out; omega)
        have s440 := s413.span d430 (by have := u435.out; omega)
        have s441 := s415.span d430 (by have := u435.out; omega)
        have s442 := s416.span d430 (by have := u435.out; omega)
        have s443 := s417.span d430 (by have := u435.out; omega)
        have z444 := Lib.hid d430.size
        clear b423 p411 p412 q406 y421 s413 s415 s416 s417 d430
        obtain ⟨w445, hs446, q447, sp448, z449⟩ := store_one (ty := 33) (cs' := #[.int .u8 (r.1.A : Int), .int .u8 (r.1.X : Int), .int .u8 (r.1.Y : Int), .int .u8 (r.1.S : Int), .int .u16 (r.1.PC : Int), .bool r.1.N, .bool r.1.V, .bool r.1.D, .bool r.1.I, .bool r.1.Z, .bool r.1.C, .slice a325 r.2.mem.length c326, .slice ta s.trace.length tc, .slice (some ⟨g384, 0, none⟩) (st.length + 1) c385, .slice (some ⟨g425, 0, none⟩) (s.cpus.length + 1) c426, .bool false]) p438 14 (.slice (some ⟨g425, 0, none⟩) (s.cpus.length + 1) c426) (by kernel_rfl) (by
          have hc := p438.cell 14 (.slice pa s.cpus.length pc) rfl
          have hf := p438.frozen 14
          simp [go_sem, hc, hf])
        replace z449 := Lib.hid z449
        replace hs446 := Lib.hid hs446
        have u451 := Lib.hid (And.intro u435.out (And.intro z444.out z449.out))
        have b450 := b434.trans (sp448.below (by have := u451.out; omega) b434.size)
        have p452 := p436.span sp448 (by have := u451.out; omega)
        have p453 := p437.span sp448 (by have := u451.out; omega)
        have s454 := s440.span sp448 (by have := u451.out; omega)
        have s455 := s441.span sp448 (by have := u451.out; omega)
        have s456 := s442.span sp448 (by have := u451.out; omega)
        have s457 := s443.span sp448 (by have := u451.out; omega)
        have s458 := s429.span sp448 (by have := u451.out; omega)
        have z459 := Lib.hid sp448.size
        clear b434 p436 p437 s440 s441 s442 s443 s429 sp448
        have ld460 : (Instr.loadAt 31 (.pointer (some ⟨P, 12, none⟩))).run Try.prog w445 = .ok (.slice ta s.trace.length tc) w445 := by
          have hc := q447.cell 12 (.slice ta s.trace.length tc) rfl
          simp [go_sem, hc]
        replace ld460 := Lib.hid ld460
        have u469 := Lib.hid (And.intro u451.out z459.out)
        obtain ⟨g461, c462, w463, h464, s465, d466, r467, r468⟩ := trace_append s454 (by have := u469.out; omega) (by have := u469.out; omega) s455 HL0.out (by have := HU.out.many; have := HK.out; omega) (by have := HL8.out; omega)
        replace r467 := Lib.hid r467
        replace r468 := Lib.hid r468
        replace h464 := Lib.hid h464
        have u471 := Lib.hid (And.intro u469.out (And.intro r467.out r468.out))
        have b470 := b450.trans (d466.below (by have := u471.out; omega) b450.size)
        have p472 := p452.span d466 (by have := u471.out; omega)
        have p473 := p453.span d466 (by have := u471.out; omega)
        have p474 := q447.span d466 (by have := u471.out; omega)
        have s475 := s455.span d466 (by have := u471.out; omega)
        have s476 := s456.span d466 (by have := u471.out; omega)
        have s477 := s457.span d466 (by have := u471.out; omega)
        have s478 := s458.span d466 (by have := u471.out; omega)
        have z479 := Lib.hid d466.size
        clear b450 p452 p453 q447 s455 s456 s457 s458 d466
        obtain ⟨w480, hs481, q482, sp483, z484⟩ := store_one (ty := 31) (cs' := #[.int .u8 (r.1.A : Int), .int .u8 (r.1.X : Int), .int .u8 (r.1.Y : Int), .int .u8 (r.1.S : Int), .int .u16 (r.1.PC : Int), .bool r.1.N, .bool r.1.V, .bool r.1.D, .bool r.1.I, .bool r.1.Z, .bool r.1.C, .slice a325 r.2.mem.length c326, .slice (some ⟨g461, 0, none⟩) (s.trace.length + r.2.log.length) c462, .slice (some ⟨g384, 0, none⟩) (st.length + 1) c385, .slice (some ⟨g425, 0, none⟩) (s.cpus.length + 1) c426, .bool false]) p474 12 (.slice (some ⟨g461, 0, none⟩) (s.trace.length + r.2.log.length) c462) (by kernel_rfl) (by
          have hc := p474.cell 12 (.slice ta s.trace.length tc) rfl
          have hf := p474.frozen 12
          simp [go_sem, hc, hf])
        replace z484 := Lib.hid z484
        replace hs481 := Lib.hid hs481
        have u486 := Lib.hid (And.intro u471.out (And.intro z479.out z484.out))
        have b485 := b470.trans (sp483.below (by have := u486.out; omega) b470.size)
        have p487 := p472.span sp483 (by have := u486.out; omega)
        have p488 := p473.span sp483 (by have := u486.out; omega)
        have s489 := s475.span sp483 (by have := u486.out; omega)
        have s490 := s476.span sp483 (by have := u486.out; omega)
        have s491 := s477.span sp483 (by have := u486.out; omega)
        have s492 := s478.span sp483 (by have := u486.out; omega)
        have s493 := s465.span sp483 (by have := u486.out; omega)
        have z494 := Lib.hid sp483.size
        clear b470 p472 p473 s475 s476 s477 s478 s465 sp483
        clear p337 q347 s370 b366 s372 p397 b409 s414 p438 s454 p474
        replace p487 := Lib.hid p487
        replace p488 := Lib.hid p488
        replace q482 := Lib.hid q482
        replace s489 := Lib.hid s489
        replace s490 := Lib.hid s490
        replace s491 := Lib.hid s491
        replace s492 := Lib.hid s492
        replace s493 := Lib.hid s493
        replace b485 := Lib.hid b485
        go_wp2_with (first | (with_reducible refine wpList_store_fit hs346.out ?_ ?_; focus (exact ⟨rfl, rfl, _, _, rfl, rfl, rfl⟩)) | (with_reducible refine wpList_store_fit hs362.out ?_ ?_; focus (exact ⟨rfl, rfl, _, _, rfl, rfl, rfl⟩)) | (with_reducible refine wpList_load_fit ld377.out ?_ ?_; focus (exact ⟨rfl, _, rfl, rfl⟩)) | (with_reducible refine wpList_load_fit ld378.out ?_ ?_; focus (exact ⟨rfl, _, rfl, rfl⟩)) | (with_reducible refine wpList_load_fit ld379.out ?_ ?_; focus (exact ⟨rfl, _, rfl, rfl⟩)) | (at_builtin; refine wpList_append_run h387.out rfl rfl rfl rfl ?_) | (with_reducible refine wpList_store_fit hs405.out ?_ ?_; focus (exact ⟨rfl, rfl, _, _, rfl, rfl, rfl⟩)) | (with_reducible refine wpList_load_fit ld419.out ?_ ?_; focus (exact ⟨rfl, _, rfl, rfl⟩)) | (with_reducible refine wpList_load_fit ld420.out ?_ ?_; focus (exact ⟨rfl, _, rfl, rfl⟩)) | (at_builtin; refine wpList_append_run h428.out rfl rfl rfl rfl ?_) | (with_reducible refine wpList_store_fit hs446.out ?_ ?_; focus (exact ⟨rfl, rfl, _, _, rfl, rfl, rfl⟩)) | (with_reducible refine wpList_load_fit ld460.out ?_ ?_; focus (exact ⟨rfl, _, rfl, rfl⟩)) | (at_builtin; refine wpList_append_run h464.out rfl rfl rfl rfl ?_) | (with_reducible refine wpList_store_fit hs481.out ?_ ?_; focus (exact ⟨rfl, rfl, _, _, rfl, rfl, rfl⟩)))
        replace p487 := p487.out
        replace p488 := p488.out
        replace q482 := q482.out
        replace s489 := s489.out
        replace s490 := s490.out
        replace s491 := s491.out
        replace s492 := s492.out
        replace s493 := s493.out
        replace b485 := b485.out
        have u495 := Lib.hid (And.intro u486.out z494.out)
        go_roundw
        case rel =>
          refine ⟨k + 1, by go_num, by omega, Lib.hid ⟨s.on r, st ++ [(s.trace.length : Int)], _, _, _, _, _, _, _, _, _, _, _, _, lo329, hi330, g461, (g461 + 1), g384, (g384 + 1), g425, (g425 + 1), rfl, (List.length_append ..).symm, (List.length_append ..).symm, (List.length_append ..).symm, ?_, HUN.out, q482, p487, s490, s493, s491, s492, by have := u495.out; unfold Places; omega, b485⟩⟩
          rw [HSM.out]
          show _ = (s.starts ++ [s.trace.length]).map _
          rw [List.map_append]; rfl
        case measure => simp [intOf]; omega
      | false =>
        by_cases hq : a2 = true ∧ fi = false
        · obtain ⟨rfl, rfl⟩ := hq
          obtain ⟨r, hr⟩ : ∃ r, servedN s.cpu s.mem false = r := ⟨_, rfl⟩
          have hrm := mI.row
          have hR := ramN_of HRAM.out hram.out
          have hlen8 := servedN_len s.cpu s.mem false
          have hmem := servedN_mem (c := s.cpu) (nmi := false) hR
          have hmany := servedN_many (c := s.cpu) (nmi := false) hR
          have hok1 := servedN_ok hcok.out hrm.all false
          rw [hr] at hlen8 hmem hmany hok1
          have HSV := fun a cap W row => specServe_any s.cpu hcok.out false a cap s.mem W row
          rw [hr] at HSV
          have hunit : unitN E k s = s.on r := by unfold unitN; rw [if_neg (by rw [ha1]; exact Bool.false_ne_true), if_pos (by rw [ha2, hfi]; rfl)]; rw [hr]
          clear hr
          have HL8 := Lib.hid hlen8.2
          have HL0 := Lib.hid hmany
          have HUN : Hid (Under c L E (k + 1) (s.on r)) := Lib.hid (HU.out.on hunit hok1 hmem hlen8.2)
          clear hlen8 hmem hmany hok1 hrm hR hunit
          have HFI := Lib.hid hfi
          clear ha1 ha2 hfi
          have c301 := pI.cell 15 (.bool false) rfl
          have ld302 : (Instr.loadAt 28 (.pointer (some ⟨P, 0, none⟩))).run Try.prog wr = .ok (.agg #[.int .u8 (s.cpu.A : Int), .int .u8 (s.cpu.X : Int), .int .u8 (s.cpu.Y : Int), .int .u8 (s.cpu.S : Int), .int .u16 (s.cpu.PC : Int), .bool s.cpu.N, .bool s.cpu.V, .bool s.cpu.D, .bool s.cpu.I, .bool s.cpu.Z, .bool s.cpu.C]) wr := load_part pI 0 #[.int .u8 (s.cpu.A : Int), .int .u8 (s.cpu.X : Int), .int .u8 (s.cpu.Y : Int), .int .u8 (s.cpu.S : Int), .int .u16 (s.cpu.PC : Int), .bool s.cpu.N, .bool s.cpu.V, .bool s.cpu.D, .bool s.cpu.I, .bool s.cpu.Z, .bool s.cpu.C] (by kernel_rfl) (by kernel_rfl) (by kernel_rfl)
          replace ld302 := Lib.hid ld302
          have y303 : BoxN (wr.alloc (.cells #[.int .u8 (s.cpu.A : Int), .int .u8 (s.cpu.X : Int), .int .u8 (s.cpu.Y : Int), .int .u8 (s.cpu.S : Int), .int .u16 (s.cpu.PC : Int), .bool s.cpu.N, .bool s.cpu.V, .bool s.cpu.D, .bool s.cpu.I, .bool s.cpu.Z, .bool s.cpu.C] 28)) wr.heap.size 28 #[.int .u8 (s.cpu.A : Int), .int .u8 (s.cpu.X : Int), .int .u8 (s.cpu.Y : Int), .int .u8 (s.cpu.S : Int), .int .u16 (s.cpu.PC : Int), .bool s.cpu.N, .bool s.cpu.V, .bool s.cpu.D, .bool s.cpu.I, .bool s.cpu.Z, .bool s.cpu.C] := by
            have h := BoxN.new wr 28 #[.int .u8 (s.cpu.A : Int), .int .u8 (s.cpu.X : Int), .int .u8 (s.cpu.Y : Int), .int .u8 (s.cpu.S : Int), .int .u16 (s.cpu.PC : Int), .bool s.cpu.N, .bool s.cpu.V, .bool s.cpu.D, .bool s.cpu.I, .bool s.cpu.Z, .bool s.cpu.C]
            simpa only [World.size_alloc] using h
          have a304 := alw wr (.cells #[.int .u8 (s.cpu.A : Int), .int .u8 (s.cpu.X : Int), .int .u8 (s.cpu.Y : Int), .int .u8 (s.cpu.S : Int), .int .u16 (s.cpu.PC : Int), .bool s.cpu.N, .bool s.cpu.V, .bool s.cpu.D, .bool s.cpu.I, .bool s.cpu.Z, .bool s.cpu.C] 28)
          have b305 := bstep bI a304
          replace pI := pI.below a304
          replace oI := oI.below a304
          replace mI := mI.below a304
          replace tI := tI.below a304
          replace sI := sI.below a304
          replace qI := qI.below a304
          have y306 : BoxN ((wr.alloc (.cells #[.int .u8 (s.cpu.A : Int), .int .u8 (s.cpu.X : Int), .int .u8 (s.cpu.Y : Int), .int .u8 (s.cpu.S : Int), .int .u16 (s.cpu.PC : Int), .bool s.cpu.N, .bool s.cpu.V, .bool s.cpu.D, .bool s.cpu.I, .bool s.cpu.Z, .bool s.cpu.C] 28)).alloc (.cells #[] 105)) (wr.heap.size + 1) 105 #[] := by
            have h := BoxN.new (wr.alloc (.cells #[.int .u8 (s.cpu.A : Int), .int .u8 (s.cpu.X : Int), .int .u8 (s.cpu.Y : Int), .int .u8 (s.cpu.S : Int), .int .u16 (s.cpu.PC : Int), .bool s.cpu.N, .bool s.cpu.V, .bool s.cpu.D, .bool s.cpu.I, .bool s.cpu.Z, .bool s.cpu.C] 28)) 105 #[]
            simpa only [World.size_alloc] using h
          have a307 := alw (wr.alloc (.cells #[.int .u8 (s.cpu.A : Int), .int .u8 (s.cpu.X : Int), .int .u8 (s.cpu.Y : Int), .int .u8 (s.cpu.S : Int), .int .u16 (s.cpu.PC : Int), .bool s.cpu.N, .bool s.cpu.V, .bool s.cpu.D, .bool s.cpu.I, .bool s.cpu.Z, .bool s.cpu.C] 28)) (.cells #[] 105)
          have b308 := bstep b305 a307
          replace y303 := y303.below a307
          replace pI := pI.below a307
          replace oI := oI.below a307
          replace mI := mI.below a307
          replace tI := tI.below a307
          replace sI := sI.below a307
          replace qI := qI.below a307
          clear a304 a307
          have z309 : Hid (((wr.alloc (.cells #[.int .u8 (s.cpu.A : Int), .int .u8 (s.cpu.X : Int), .int .u8 (s.cpu.Y : Int), .int .u8 (s.cpu.S : Int), .int .u16 (s.cpu.PC : Int), .bool s.cpu.N, .bool s.cpu.V, .bool s.cpu.D, .bool s.cpu.I, .bool s.cpu.Z, .bool s.cpu.C] 28)).alloc (.cells #[] 105)).heap.size = wr.heap.size + 2) := Lib.hid (by simp only [World.size_alloc])
          clear bI b305
          replace pI := Lib.hid pI
          replace oI := Lib.hid oI
          replace y303 := Lib.hid y303
          replace mI := Lib.hid mI
          replace tI := Lib.hid tI
          replace sI := Lib.hid sI
          replace qI := Lib.hid qI
          replace b308 := Lib.hid b308
          go_wp2_with ((with_reducible refine wpList_load_fit ld302.out ?_ ?_; focus (exact ⟨rfl, _, rfl, rfl⟩)))
          replace pI := pI.out
          replace oI := oI.out
          replace y303 := y303.out
          replace mI := mI.out
          replace tI := tI.out
          replace sI := sI.out
          replace qI := qI.out
          replace b308 := b308.out
          clear c301 ld302
          refine (HA1 _ b308).mono ?_
          rintro e w310 ⟨rfl, d311⟩
          replace d311 : Below ((wr.alloc (.cells #[.int .u8 (s.cpu.A : Int), .int .u8 (s.cpu.X : Int), .int .u8 (s.cpu.Y : Int), .int .u8 (s.cpu.S : Int), .int .u16 (s.cpu.PC : Int), .bool s.cpu.N, .bool s.cpu.V, .bool s.cpu.D, .bool s.cpu.I, .bool s.cpu.Z, .bool s.cpu.C] 28)).alloc (.cells #[] 105)).heap.size ((wr.alloc (.cells #[.int .u8 (s.cpu.A : Int), .int .u8 (s.cpu.X : Int), .int .u8 (s.cpu.Y : Int), .int .u8 (s.cpu.S : Int), .int .u16 (s.cpu.PC : Int), .bool s.cpu.N, .bool s.cpu.V, .bool s.cpu.D, .bool s.cpu.I, .bool s.cpu.Z, .bool s.cpu.C] 28)).alloc (.cells #[] 105)) w310 := d311
          have b312 := bstep b308 d311
          have p313 := pI.below d311
          have p314 := oI.below d311
          have p315 := y303.below d311
          have s316 := mI.below d311
          have s317 := tI.below d311
          have s318 := sI.below d311
          have s319 := qI.below d311
          have z320 := Lib.hid d311.size
          clear b308 pI oI y303 mI tI sI qI d311
          replace p313 := Lib.hid p313
          replace p314 := Lib.hid p314
          replace p315 := Lib.hid p315
          replace s316 := Lib.hid s316
          replace s317 := Lib.hid s317
          replace s318 := Lib.hid s318
          replace s319 := Lib.hid s319
          replace b312 := Lib.hid b312
          go_wp2_with fail
          replace p313 := p313.out
          replace p314 := p314.out
          replace p315 := p315.out
          replace s316 := s316.out
          replace s317 := s317.out
          replace s318 := s318.out
          replace s319 := s319.out
          replace b312 := b312.out
          refine (HA2 _ b312).mono ?_
          rintro e w321 ⟨rfl, d322⟩
          have b323 := bstep b312 d322
          have p324 := p313.below d322
          have p325 := p314.below d322
          have p326 := p315.below d322
          have s327 := s316.below d322
          have s328 := s317.below d322
          have s329 := s318.below d322
          have s330 := s319.below d322
          have z331 := Lib.hid d322.size
          clear b312 p313 p314 p315 s316 s317 s318 s319 d322
          have c332 := p324.cell 8 (.bool s.cpu.I) rfl
          rw [HFI.out] at c332
          have ld333 : (Instr.loadAt 28 (.pointer (some ⟨P, 0, none⟩))).run Try.prog w321 = .ok (.agg #[.int .u8 (s.cpu.A : Int), .int .u8 (s.cpu.X : Int), .int .u8 (s.cpu.Y : Int), .int .u8 (s.cpu.S : Int), .int .u16 (s.cpu.PC : Int), .bool s.cpu.N, .bool s.cpu.V, .bool s.cpu.D, .bool s.cpu.I, .bool s.cpu.Z, .bool s.cpu.C]) w321 := load_part p324 0 #[.int .u8 (s.cpu.A : Int), .int .u8 (s.cpu.X : Int), .int .u8 (s.cpu.Y : Int), .int .u8 (s.cpu.S : Int), .int .u16 (s.cpu.PC : Int), .bool s.cpu.N, .bool s.cpu.V, .bool s.cpu.D, .bool s.cpu.I, .bool s.cpu.Z, .bool s.cpu.C] (by kernel_rfl) (by kernel_rfl) (by kernel_rfl)
          replace ld333 := Lib.hid ld333
          have ld334 : (Instr.loadAt 30 (.pointer (some ⟨P, 11, none⟩))).run Try.prog w321 = .ok (.agg #[.slice ma s.mem.length mc]) w321 := load_part p324 11 #[.slice ma s.mem.length mc] (by kernel_rfl) (by kernel_rfl) (by kernel_rfl)
          replace ld334 := Lib.hid ld334
          replace p324 := Lib.hid p324
          replace p325 := Lib.hid p325
          replace p326 := Lib.hid p326
          replace s327 := Lib.hid s327
          replace s328 := Lib.hid s328
          replace s329 := Lib.hid s329
          replace s330 := Lib.hid s330
          replace b323 := Lib.hid b323
          go_wp2_with (first | (with_reducible refine wpList_load_fit ld333.out ?_ ?_; focus (exact ⟨rfl, _, rfl, rfl⟩)) | (with_reducible refine wpList_load_fit ld334.out ?_ ?_; focus (exact ⟨rfl, _, rfl, rfl⟩)))
          replace p324 := p324.out
          replace p325 := p325.out
          replace p326 := p326.out
          replace s327 := s327.out
          replace s328 := s328.out
          replace s329 := s329.out
          replace s330 := s330.out
          replace b323 := b323.out
          clear c332 ld333 ld334
          refine (HSV _ _ _ s327.row).mono ?_
          rintro e w335 hst
          obtain ⟨a337, c338, a339, c340, lo341, hi342, lo343, hi344, rfl, s345, s346, r347, d336⟩ := hst.three
          clear hst
          have r347h := Lib.hid r347
          have b348 := bstep b323 d336
          have p349 := p324.below d336
          have p350 := p325.below d336
          have p351 := p326.below d336
          have s352 := s327.below d336
          have s353 := s328.below d336
          have s354 := s329.below d336
          have s355 := s330.below d336
          have z356 := Lib.hid d336.size
          clear b323 p324 p325 p326 s327 s328 s329 s330 r347 d336
          obtain ⟨w357, hs358, q359, sp360, z361⟩ := store_part (ty := 28) (cs' := #[.int .u8 (r.1.A : Int), .int .u8 (r.1.X : Int), .int .u8 (r.1.Y : Int), .int .u8 (r.1.S : Int), .int .u16 (r.1.PC : Int), .bool r.1.N, .bool r.1.V, .bool r.1.D, .bool r.1.I, .bool r.1.Z, .bool r.1.C, .slice ma s.mem.length mc, .slice ta s.trace.length tc, .slice sa st.length sc, .slice pa s.cpus.length pc, .bool false]) p349 0 #[.int .u8 (r.1.A : Int), .int .u8 (r.1.X : Int), .int .u8 (r.1.Y : Int), .int .u8 (r.1.S : Int), .int .u16 (r.1.PC : Int), .bool r.1.N, .bool r.1.V, .bool r.1.D, .bool r.1.I, .bool r.1.Z, .bool r.1.C] (by kernel_rfl) (Nat.le_of_ble_eq_true (by kernel_rfl)) (by kernel_rfl) (by kernel_rfl)
          replace z361 := Lib.hid z361
          replace hs358 := Lib.hid hs358
          have u363 := Lib.hid (And.intro zI.out (And.intro z309.out (And.intro z320.out (And.intro z331.out (And.intro r347h.out (And.intro z356.out z361.out))))))
          have b362 := b348.trans (sp360.below (by have := u363.out; omega) b348.size)
          have p364 := p350.span sp360 (by have := u363.out; omega)
          have p365 := p351.span sp360 (by have := u363.out; omega)
          have s366 := s352.span sp360 (by have := u363.out; omega)
          have s367 := s353.span sp360 (by have := u363.out; omega)
          have s368 := s354.span sp360 (by have := u363.out; omega)
          have s369 := s355.span sp360 (by have := u363.out; omega)
          have s370 := s345.span sp360 (by have := u363.out; omega)
          have s371 := s346.span sp360 (by have := u363.out; omega)
          have z372 := Lib.hid sp360.size
          clear b348 p350 p351 s352 s353 s354 s355 s345 s346 sp360
          obtain ⟨w373, hs374, q375, sp376, z377⟩ := store_part (ty := 30) (cs' := #[.int .u8 (r.1.A : Int), .int .u8 (r.1.X : Int), .int .u8 (r.1.Y : Int), .int .u8 (r.1.S : Int), .int .u16 (r.1.PC : Int), .bool r.1.N, .bool r.1.V, .bool r.1.D, .bool r.1.I, .bool r.1.Z, .bool r.1.C, .slice a337 r.2.mem.length c338, .slice ta s.trace.length tc, .slice sa st.length sc, .slice pa s.cpus.length pc, .bool false]) q359 11 #[.slice a337 r.2.mem.length c338] (by kernel_rfl) (Nat.le_of_ble_eq_true (by kernel_rfl)) (by kernel_rfl) (by kernel_rfl)
          replace z377 := Lib.hid z377
          replace hs374 := Lib.hid hs374
          have u379 := Lib.hid (And.intro u363.out (And.intro z372.out z377.out))
          have b378 := b362.trans (sp376.below (by have := u379.out; omega) b362.size)
          have p380 := p364.span sp376 (by have := u379.out; omega)
          have p381 := p365.span sp376 (by have := u379.out; omega)
          have s382 := s366.span sp376 (by have := u379.out; omega)
          have s383 := s367.span sp376 (by have := u379.out; omega)
          have s384 := s368.span sp376 (by have := u379.out; omega)
          have s385 := s369.span sp376 (by have := u379.out; omega)
          have s386 := s370.span sp376 (by have := u379.out; omega)
          have s387 := s371.span sp376 (by have := u379.out; omega)
          have z388 := Lib.hid sp376.size
          clear b362 p364 p365 s366 s367 s368 s369 s370 s371 sp376
          have ld389 : (Instr.loadAt 4 (.pointer (some ⟨P, 15, none⟩))).run Try.prog w373 = .ok (.bool false) w373 := by
            have hc := q375.cell 15 (.bool false) rfl
            simp [go_sem, hc]
          replace ld389 := Lib.hid ld389
          have ld390 : (Instr.loadAt 32 (.pointer (some ⟨P, 13, none⟩))).run Try.prog w373 = .ok (.slice sa st.length sc) w373 := by
            have hc := q375.cell 13 (.slice sa st.length sc) rfl
            simp [go_sem, hc]
          replace ld390 := Lib.hid ld390
          have ld391 : (Instr.loadAt 31 (.pointer (some ⟨P, 12, none⟩))).run Try.prog w373 = .ok (.slice ta s.trace.length tc) w373 := by
            have hc := q375.cell 12 (.slice ta s.trace.length tc) rfl
            simp [go_sem, hc]
          replace ld391 := Lib.hid ld391
          have y392 : BoxN (w373.alloc (.cells #[.int .i64 (s.trace.length : Int)] 3)) w373.heap.size 3 #[.int .i64 (s.trace.length : Int)] := by
            have h := BoxN.new w373 3 #[.int .i64 (s.trace.length : Int)]
            simpa only [World.size_alloc] using h
          have a393 := alw w373 (.cells #[.int .i64 (s.trace.length : Int)] 3)
          have b394 := bstep b378 a393
          replace p380 := p380.below a393
          replace p381 := p381.below a393
          replace q375 := q375.below a393
          replace s383 := s383.below a393
          replace s384 := s384.below a393
          replace s385 := s385.below a393
          replace s387 := s387.below a393
          replace s386 := s386.below a393
          clear a393
          have z395 : Hid ((w373.alloc (.cells #[.int .i64 (s.trace.length : Int)] 3)).heap.size = w373.heap.size + 1) := Lib.hid (by simp only [World.size_alloc])
          have u404 := Lib.hid (And.intro u379.out (And.intro z388.out z395.out))
          obtain ⟨g396, c397, w398, h399, s400, d401, r402, r403⟩ := starts_append s384 (by have := u404.out; omega) (by have := u404.out; omega) (s.trace.length : Int) _ y392 (by have := HST.out; have := HK.out; omega) 1
          replace r402 := Lib.hid r402
          replace r403 := Lib.hid r403
          replace h399 := Lib.hid h399
          have u406 := Lib.hid (And.intro u404.out (And.intro r402.out r403.out))
          have b405 := b394.trans (d401.below (by have := u406.out; omega) b394.size)
          have p407 := p380.span d401 (by have := u406.out; omega)
          have p408 := p381.span d401 (by have := u406.out; omega)
          have p409 := q375.span d401 (by have := u406.out; omega)
          have p410 := y392.span d401 (by have := u406.out; omega)
          have s411 := s383.span d401 (by have := u406.out; omega)
          have s412 := s385.span d401 (by have := u406.out; omega)
          have s413 := s387.span d401 (by have := u406.out; omega)
          have s414 := s386.span d401 (by have := u406.out; omega)
          have z415 := Lib.hid d401.size
          clear b394 p380 p381 q375 y392 s383 s385 s387 s386 d401
          obtain ⟨w416, hs417, q418, sp419, z420⟩ := store_one (ty := 32) (cs' := #[.int .u8 (r.1.A : Int), .int .u8 (r.1.X : Int), .int .u8 (r.1.Y : Int), .int .u8 (r.1.S : Int), .int .u16 (r.1.PC : Int), .bool r.1.N, .bool r.1.V, .bool r.1.D, .bool r.1.I, .bool r.1.Z, .bool r.1.C, .slice a337 r.2.mem.length c338, .slice ta s.trace.length tc, .slice (some ⟨g396, 0, none⟩) (st.length + 1) c397, .slice pa s.cpus.length pc, .bool false]) p409 13 (.slice (some ⟨g396, 0, none⟩) (st.length + 1) c397) (by kernel_rfl) (by
            have hc := p409.cell 13 (.slice sa st.length sc) rfl
            have hf := p409.frozen 13
            simp [go_sem, hc, hf])
          replace z420 := Lib.hid z420
          replace hs417 := Lib.hid hs417
          have u422 := Lib.hid (And.intro u406.out (And.intro z415.out z420.out))
          have b421 := b405.trans (sp419.below (by have := u422.out; omega) b405.size)
          have p423 := p407.span sp419 (by have := u422.out; omega)
          have p424 := p408.span sp419 (by have := u422.out; omega)
          have s425 := s411.span sp419 (by have := u422.out; omega)
          have s426 := s412.span sp419 (by have := u422.out; omega)
          have s427 := s413.span sp419 (by have := u422.out; omega)
          have s428 := s414.span sp419 (by have := u422.out; omega)
          have s429 := s400.span sp419 (by have := u422.out; omega)
          have z430 := Lib.hid sp419.size
          clear b405 p407 p408 s411 s412 s413 s414 s400 sp419
          have ld431 : (Instr.loadAt 33 (.pointer (some ⟨P, 14, none⟩))).run Try.prog w416 = .ok (.slice pa s.cpus.length pc) w416 := by
            have hc := q418.cell 14 (.slice pa s.cpus.length pc) rfl
            simp [go_sem, hc]
          replace ld431 := Lib.hid ld431
          have ld432 : (Instr.loadAt 28 (.pointer (some ⟨wr.heap.size, 0, none⟩))).run Try.prog w416 = .ok (.agg #[.int .u8 (s.cpu.A : Int), .int .u8 (s.cpu.X : Int), .int .u8 (s.cpu.Y : Int), .int .u8 (s.cpu.S : Int), .int .u16 (s.cpu.PC : Int), .bool s.cpu.N, .bool s.cpu.V, .bool s.cpu.D, .bool s.cpu.I, .bool s.cpu.Z, .bool s.cpu.C]) w416 := load_part p424 0 #[.int .u8 (s.cpu.A : Int), .int .u8 (s.cpu.X : Int), .int .u8 (s.cpu.Y : Int), .int .u8 (s.cpu.S : Int), .int .u16 (s.cpu.PC : Int), .bool s.cpu.N, .bool s.cpu.V, .bool s.cpu.D, .bool s.cpu.I, .bool s.cpu.Z, .bool s.cpu.C] (by kernel_rfl) (by kernel_rfl) (by kernel_rfl)
          replace ld432 := Lib.hid ld432
          have y433 : BoxN (w416.alloc (.cells #[.int .u8 (s.cpu.A : Int), .int .u8 (s.cpu.X : Int), .int .u8 (s.cpu.Y : Int), .int .u8 (s.cpu.S : Int), .int .u16 (s.cpu.PC : Int), .bool s.cpu.N, .bool s.cpu.V, .bool s.cpu.D, .bool s.cpu.I, .bool s.cpu.Z, .bool s.cpu.C] 28)) w416.heap.size 28 #[.int .u8 (s.cpu.A : Int), .int .u8 (s.cpu.X : Int), .int .u8 (s.cpu.Y : Int), .int .u8 (s.cpu.S : Int), .int .u16 (s.cpu.PC : Int), .bool s.cpu.N, .bool s.cpu.V, .bool s.cpu.D, .bool s.cpu.I, .bool s.cpu.Z, .bool s.cpu.C] := by
            have h := BoxN.new w416 28 #[.int .u8 (s.cpu.A : Int), .int .u8 (s.cpu.X : Int), .int .u8 (s.cpu.Y : Int), .int .u8 (s.cpu.S : Int), .int .u16 (s.cpu.PC : Int), .bool s.cpu.N, .bool s.cpu.V, .bool s.cpu.D, .bool s.cpu.I, .bool s.cpu.Z, .bool s.cpu.C]
            simpa only [World.size_alloc] using h
          have a434 := alw w416 (.cells #[.int .u8 (s.cpu.A : Int), .int .u8 (s.cpu.X : Int), .int .u8 (s.cpu.Y : Int), .int .u8 (s.cpu.S : Int), .int .u16 (s.cpu.PC : Int), .bool s.cpu.N, .bool s.cpu.V, .bool s.cpu.D, .bool s.cpu.I, .bool s.cpu.Z, .bool s.cpu.C] 28)
          have b435 := bstep b421 a434
          replace p423 := p423.below a434
          replace p424 := p424.below a434
          replace q418 := q418.below a434
          replace s425 := s425.below a434
          replace s426 := s426.below a434
          replace s427 := s427.below a434
          replace s428 := s428.below a434
          replace s429 := s429.below a434
          clear a434
          have z436 : Hid ((w416.alloc (.cells #[.int .u8 (s.cpu.A : Int), .int .u8 (s.cpu.X : Int), .int .u8 (s.cpu.Y : Int), .int .u8 (s.cpu.S : Int), .int .u16 (s.cpu.PC : Int), .bool s.cpu.N, .bool s.cpu.V, .bool s.cpu.D, .bool s.cpu.I, .bool s.cpu.Z, .bool s.cpu.C] 28)).heap.size = w416.heap.size + 1) := Lib.hid (by simp only [World.size_alloc])
          have u445 := Lib.hid (And.intro u422.out (And.intro z430.out z436.out))
          obtain ⟨g437, c438, w439, h440, s441, d442, r443, r444⟩ := cpus_append s426 (by have := u445.out; omega) (by have := u445.out; omega) s.cpu _ y433 (by have := HU.out.cpus; have := HK.out; omega) 1
          replace r443 := Lib.hid r443
          replace r444 := Lib.hid r444
          replace h440 := Lib.hid h440
          have u447 := Lib.hid (And.intro u445.out (And.intro r443.out r444.out))
          have b446 := b435.trans (d442.below (by have := u447.out; omega) b435.size)
          have p448 := p423.span d442 (by have := u447.out; omega)
          have p449 := p424.span d442 (by have := u447.out; omega)
          have p450 := q418.span d442 (by have := u447.out; omega)
          have p451 := y433.span d442 (by have := u447.out; omega)
          have s452 := s425.span d442 (by have := u447.out; omega)
          have s453 := s427.span d442 (by have := u447.out; omega)
          have s454 := s428.span d442 (by have := u447.out; omega)
          have s455 := s429.span d442 (by have := u447.out; omega)
          have z456 := Lib.hid d442.size
          clear b435 p423 p424 q418 y433 s425 s427 s428 s429 d442
          obtain ⟨w457, hs458, q459, sp460, z461⟩ := store_one (ty := 33) (cs' := #[.int .u8 (r.1.A : Int), .int .u8 (r.1.X : Int), .int .u8 (r.1.Y : Int), .int .u8 (r.1.S : Int), .int .u16 (r.1.PC : Int), .bool r.1.N, .bool r.1.V, .bool r.1.D, .bool r.1.I, .bool r.1.Z, .bool r.1.C, .slice a337 r.2.mem.length c338, .slice ta s.trace.length tc, .slice (some ⟨g396, 0, none⟩) (st.length + 1) c397, .slice (some ⟨g437, 0, none⟩) (s.cpus.length + 1) c438, .bool false]) p450 14 (.slice (some ⟨g437, 0, none⟩) (s.cpus.length + 1) c438) (by kernel_rfl) (by
            have hc := p450.cell 14 (.slice pa s.cpus.length pc) rfl
            have hf := p450.frozen 14
            simp [go_sem, hc, hf])
          replace z461 := Lib.hid z461
          replace hs458 := Lib.hid hs458
          have u463 := Lib.hid (And.intro u447.out (And.intro z456.out z461.out))
          have b462 := b446.trans (sp460.below (by have := u463.out; omega) b446.size)
          have p464 := p448.span sp460 (by have := u463.out; omega)
          have p465 := p449.span sp460 (by have := u463.out; omega)
          have s466 := s452.span sp460 (by have := u463.out; omega)
          have s467 := s453.span sp460 (by have := u463.out; omega)
          have s468 := s454.span sp460 (by have := u463.out; omega)
          have s469 := s455.span sp460 (by have := u463.out; omega)
          have s470 := s441.span sp460 (by have := u463.out; omega)
          have z471 := Lib.hid sp460.size
          clear b446 p448 p449 s452 s453 s454 s455 s441 sp460
          have ld472 : (Instr.loadAt 31 (.pointer (some ⟨P, 12, none⟩))).run Try.prog w457 = .ok (.slice ta s.trace.length tc) w457 := by
            have hc := q459.cell 12 (.slice ta s.trace.length tc) rfl
            simp [go_sem, hc]
          replace ld472 := Lib.hid ld472
          have u481 := Lib.hid (And.intro u463.out z471.out)
          obtain ⟨g473, c474, w475, h476, s477, d478, r479, r480⟩ := trace_append s466 (by have := u481.out; omega) (by have := u481.out; omega) s467 HL0.out (by have := HU.out.many; have := HK.out; omega) (by have := HL8.out; omega)
          replace r479 := Lib.hid r479
          replace r480 := Lib.hid r480
          replace h476 := Lib.hid h476
          have u483 := Lib.hid (And.intro u481.out (And.intro r479.out r480.out))
          have b482 := b462.trans (d478.below (by have := u483.out; omega) b462.size)
          have p484 := p464.span d478 (by have := u483.out; omega)
          have p485 := p465.span d478 (by have := u483.out; omega)
          have p486 := q459.span d478 (by have := u483.out; omega)
          have s487 := s467.span d478 (by have := u483.out; omega)
          have s488 := s468.span d478 (by have := u483.out; omega)
          have s489 := s469.span d478 (by have := u483.out; omega)
          have s490 := s470.span d478 (by have := u483.out; omega)
          have z491 := Lib.hid d478.size
          clear b462 p464 p465 q459 s467 s468 s469 s470 d478
          obtain ⟨w492, hs493, q494, sp495, z496⟩ := store_one (ty := 31) (cs' := #[.int .u8 (r.1.A : Int), .int .u8 (r.1.X : Int), .int .u8 (r.1.Y : Int), .int .u8 (r.1.S : Int), .int .u16 (r.1.PC : Int), .bool r.1.N, .bool r.1.V, .bool r.1.D, .bool r.1.I, .bool r.1.Z, .bool r.1.C, .slice a337 r.2.mem.length c338, .slice (some ⟨g473, 0, none⟩) (s.trace.length + r.2.log.length) c474, .slice (some ⟨g396, 0, none⟩) (st.length + 1) c397, .slice (some ⟨g437, 0, none⟩) (s.cpus.length + 1) c438, .bool false]) p486 12 (.slice (some ⟨g473, 0, none⟩) (s.trace.length + r.2.log.length) c474) (by kernel_rfl) (by
            have hc := p486.cell 12 (.slice ta s.trace.length tc) rfl
            have hf := p486.frozen 12
            simp [go_sem, hc, hf])
          replace z496 := Lib.hid z496
          replace hs493 := Lib.hid hs493
          have u498 := Lib.hid (And.intro u483.out (And.intro z491.out z496.out))
          have b497 := b482.trans (sp495.below (by have := u498.out; omega) b482.size)
          have p499 := p484.span sp495 (by have := u498.out; omega)
          have p500 := p485.span sp495 (by have := u498.out; omega)
          have s501 := s487.span sp495 (by have := u498.out; omega)
          have s502 := s488.span sp495 (by have := u498.out; omega)
          have s503 := s489.span sp495 (by have := u498.out; omega)
          have s504 := s490.span sp495 (by have := u498.out; omega)
          have s505 := s477.span sp495 (by have := u498.out; omega)
          have z506 := Lib.hid sp495.size
          clear b482 p484 p485 s487 s488 s489 s490 s477 sp495
          clear p349 q359 s382 b378 s384 p409 b421 s426 p450 s466 p486
          replace p499 := Lib.hid p499
          replace p500 := Lib.hid p500
          replace q494 := Lib.hid q494
          replace s501 := Lib.hid s501
          replace s502 := Lib.hid s502
          replace s503 := Lib.hid s503
          replace s504 := Lib.hid s504
          replace s505 := Lib.hid s505
          replace b497 := Lib.hid b497
          go_wp2_with (first | (with_reducible refine wpList_store_fit hs358.out ?_ ?_; focus (exact ⟨rfl, rfl, _, _, rfl, rfl, rfl⟩)) | (with_reducible refine wpList_store_fit hs374.out ?_ ?_; focus (exact ⟨rfl, rfl, _, _, rfl, rfl, rfl⟩)) | (with_reducible refine wpList_load_fit ld389.out ?_ ?_; focus (exact ⟨rfl, _, rfl, rfl⟩)) | (with_reducible refine wpList_load_fit ld390.out ?_ ?_; focus (exact ⟨rfl, _, rfl, rfl⟩)) | (with_reducible refine wpList_load_fit ld391.out ?_ ?_; focus (exact ⟨rfl, _, rfl, rfl⟩)) | (at_builtin; refine wpList_append_run h399.out rfl rfl rfl rfl ?_) | (with_reducible refine wpList_store_fit hs417.out ?_ ?_; focus (exact ⟨rfl, rfl, _, _, rfl, rfl, rfl⟩)) | (with_reducible refine wpList_load_fit ld431.out ?_ ?_; focus (exact ⟨rfl, _, rfl, rfl⟩)) | (with_reducible refine wpList_load_fit ld432.out ?_ ?_; focus (exact ⟨rfl, _, rfl, rfl⟩)) | (at_builtin; refine wpList_append_run h440.out rfl rfl rfl rfl ?_) | (with_reducible refine wpList_store_fit hs458.out ?_ ?_; focus (exact ⟨rfl, rfl, _, _, rfl, rfl, rfl⟩)) | (with_reducible refine wpList_load_fit ld472.out ?_ ?_; focus (exact ⟨rfl, _, rfl, rfl⟩)) | (at_builtin; refine wpList_append_run h476.out rfl rfl rfl rfl ?_) | (with_reducible refine wpList_store_fit hs493.out ?_ ?_; focus (exact ⟨rfl, rfl, _, _, rfl, rfl, rfl⟩)))
          replace p499 := p499.out
          replace p500 := p500.out
          replace q494 := q494.out
          replace s501 := s501.out
          replace s502 := s502.out
          replace s503 := s503.out
          replace s504 := s504.out
          replace s505 := s505.out
          replace b497 := b497.out
          have u507 := Lib.hid (And.intro u498.out z506.out)
          go_roundw
          case rel =>
            refine ⟨k + 1, by go_num, by omega, Lib.hid ⟨s.on r, st ++ [(s.trace.length : Int)], _, _, _, _, _, _, _, _, _, _, _, _, lo341, hi342, g473, (g473 + 1), g396, (g396 + 1), g437, (g437 + 1), rfl, (List.length_append ..).symm, (List.length_append ..).symm, (List.length_append ..).symm, ?_, HUN.out, q494, p499, s502, s505, s503, s504, by have := u507.out; unfold Places; omega, b497⟩⟩
            rw [HSM.out]
            show _ = (s.starts ++ [s.trace.length]).map _
            rw [List.map_append]; rfl
          case measure => simp [intOf]; omega
        · have hno : ¬ ((askedN E k false && !s.cpu.I) = true) := fun e => by
            rw [ha2, hfi, Bool.and_eq_true, Bool.not_eq_true'] at e
            exact hq e
          have HJ := fun a cap W row => specJams_any a cap s.cpu.PC s.mem hcok.out.2.2.2.2 W row
          cases hj : jamsN s.mem s.cpu.PC with
          | false =>
            rw [hj] at HJ
            obtain ⟨r, hr⟩ : ∃ r, stepN s.cpu s.mem = r := ⟨_, rfl⟩
            have hrm := mI.row
            have hR := ramN_of HRAM.out hram.out
            have hlen8 := stepN_len s.cpu s.mem
            have hmem := stepN_mem (c := s.cpu) hR
            have hmany := stepN_many (c := s.cpu) hR hj
            have hok1 := stepN_ok hcok.out hrm.all
            rw [hr] at hlen8 hmem hmany hok1
            have HSV := fun a cap W row => specStep_any s.cpu hcok.out a cap s.mem W row
            rw [hr] at HSV
            have hunit : unitN E k s = s.on r := by unfold unitN; rw [if_neg (by rw [ha1]; exact Bool.false_ne_true), if_neg hno, if_neg (by rw [hj]; exact Bool.false_ne_true)]; rw [hr]
            clear hr
            have HL8 := Lib.hid hlen8.2
            have HL0 := Lib.hid hmany
            have HUN : Hid (Under c L E (k + 1) (s.on r)) := Lib.hid (HU.out.on hunit hok1 hmem hlen8.2)
            clear hlen8 hmem hmany hok1 hrm hR hunit
            clear ha1 ha2 hno hj
            cases a2 with
            | false =>
              clear hq hfi
              have c301 := pI.cell 15 (.bool false) rfl
              have ld302 : (Instr.loadAt 28 (.pointer (some ⟨P, 0, none⟩))).run Try.prog wr = .ok (.agg #[.int .u8 (s.cpu.A : Int), .int .u8 (s.cpu.X : Int), .int .u8 (s.cpu.Y : Int), .int .u8 (s.cpu.S : Int), .int .u16 (s.cpu.PC : Int), .bool s.cpu.N, .bool s.cpu.V, .bool s.cpu.D, .bool s.cpu.I, .bool s.cpu.Z, .bool s.cpu.C]) wr := load_part pI 0 #[.int .u8 (s.cpu.A : Int), .int .u8 (s.cpu.X : Int), .int .u8 (s.cpu.Y : Int), .int .u8 (s.cpu.S : Int), .int .u16 (s.cpu.PC : Int), .bool s.cpu.N, .bool s.cpu.V, .bool s.cpu.D, .bool s.cpu.I, .bool s.cpu.Z, .bool s.cpu.C] (by kernel_rfl) (by kernel_rfl) (by kernel_rfl)
              replace ld302 := Lib.hid ld302
              have y303 : BoxN (wr.alloc (.cells #[.int .u8 (s.cpu.A : Int), .int .u8 (s.cpu.X : Int), .int .u8 (s.cpu.Y : Int), .int .u8 (s.cpu.S : Int), .int .u16 (s.cpu.PC : Int), .bool s.cpu.N, .bool s.cpu.V, .bool s.cpu.D, .bool s.cpu.I, .bool s.cpu.Z, .bool s.cpu.C] 28)) wr.heap.size 28 #[.int .u8 (s.cpu.A : Int), .int .u8 (s.cpu.X : Int), .int .u8 (s.cpu.Y : Int), .int .u8 (s.cpu.S : Int), .int .u16 (s.cpu.PC : Int), .bool s.cpu.N, .bool s.cpu.V, .bool s.cpu.D, .bool s.cpu.I, .bool s.cpu.Z, .bool s.cpu.C] := by
                have h := BoxN.new wr 28 #[.int .u8 (s.cpu.A : Int), .int .u8 (s.cpu.X : Int), .int .u8 (s.cpu.Y : Int), .int .u8 (s.cpu.S : Int), .int .u16 (s.cpu.PC : Int), .bool s.cpu.N, .bool s.cpu.V, .bool s.cpu.D, .bool s.cpu.I, .bool s.cpu.Z, .bool s.cpu.C]
                simpa only [World.size_alloc] using h
              have a304 := alw wr (.cells #[.int .u8 (s.cpu.A : Int), .int .u8 (s.cpu.X : Int), .int .u8 (s.cpu.Y : Int), .int .u8 (s.cpu.S : Int), .int .u16 (s.cpu.PC : Int), .bool s.cpu.N, .bool s.cpu.V, .bool s.cpu.D, .bool s.cpu.I, .bool s.cpu.Z, .bool s.cpu.C] 28)
              have b305 := bstep bI a304
              replace pI := pI.below a304
              replace oI := oI.below a304
              replace mI := mI.below a304
              replace tI := tI.below a304
              replace sI := sI.below a304
              replace qI := qI.below a304
              have y306 : BoxN ((wr.alloc (.cells #[.int .u8 (s.cpu.A : Int), .int .u8 (s.cpu.X : Int), .int .u8 (s.cpu.Y : Int), .int .u8 (s.cpu.S : Int), .int .u16 (s.cpu.PC : Int), .bool s.cpu.N, .bool s.cpu.V, .bool s.cpu.D, .bool s.cpu.I, .bool s.cpu.Z, .bool s.cpu.C] 28)).alloc (.cells #[] 105)) (wr.heap.size + 1) 105 #[] := by
                have h := BoxN.new (wr.alloc (.cells #[.int .u8 (s.cpu.A : Int), .int .u8 (s.cpu.X : Int), .int .u8 (s.cpu.Y : Int), .int .u8 (s.cpu.S : Int), .int .u16 (s.cpu.PC : Int), .bool s.cpu.N, .bool s.cpu.V, .bool s.cpu.D, .bool s.cpu.I, .bool s.cpu.Z, .bool s.cpu.C] 28)) 105 #[]
                simpa only [World.size_alloc] using h
              have a307 := alw (wr.alloc (.cells #[.int .u8 (s.cpu.A : Int), .int .u8 (s.cpu.X : Int), .int .u8 (s.cpu.Y : Int), .int .u8 (s.cpu.S : Int), .int .u16 (s.cpu.PC : Int), .bool s.cpu.N, .bool s.cpu.V, .bool s.cpu.D, .bool s.cpu.I, .bool s.cpu.Z, .bool s.cpu.C] 28)) (.cells #[] 105)
              have b308 := bstep b305 a307
              replace y303 := y303.below a307
              replace pI := pI.below a307
              replace oI := oI.below a307
              replace mI := mI.below a307
              replace tI := tI.below a307
              replace sI := sI.below a307
              replace qI := qI.below a307
              clear a304 a307
              have z309 : Hid (((wr.alloc (.cells #[.int .u8 (s.cpu.A : Int), .int .u8 (s.cpu.X : Int), .int .u8 (s.cpu.Y : Int), .int .u8 (s.cpu.S : Int), .int .u16 (s.cpu.PC : Int), .bool s.cpu.N, .bool s.cpu.V, .bool s.cpu.D, .bool s.cpu.I, .bool s.cpu.Z, .bool s.cpu.C] 28)).alloc (.cells #[] 105)).heap.size = wr.heap.size + 2) := Lib.hid (by simp only [World.size_alloc])
              clear bI b305
              replace pI := Lib.hid pI
              replace oI := Lib.hid oI
              replace y303 := Lib.hid y303
              replace mI := Lib.hid mI
              replace tI := Lib.hid tI
              replace sI := Lib.hid sI
              replace qI := Lib.hid qI
              replace b308 := Lib.hid b308
              go_wp2_with ((with_reducible refine wpList_load_fit ld302.out ?_ ?_; focus (exact ⟨rfl, _, rfl, rfl⟩)))
              replace pI := pI.out
              replace oI := oI.out
              replace y303 := y303.out
              replace mI := mI.out
              replace tI := tI.out
              replace sI := sI.out
              replace qI := qI.out
              replace b308 := b308.out
              clear c301 ld302
              refine (HA1 _ b308).mono ?_
              rintro e w310 ⟨rfl, d311⟩
              replace d311 : Below ((wr.alloc (.cells #[.int .u8 (s.cpu.A : Int), .int .u8 (s.cpu.X : Int), .int .u8 (s.cpu.Y : Int), .int .u8 (s.cpu.S : Int), .int .u16 (s.cpu.PC : Int), .bool s.cpu.N, .bool s.cpu.V, .bool s.cpu.D, .bool s.cpu.I, .bool s.cpu.Z, .bool s.cpu.C] 28)).alloc (.cells #[] 105)).heap.size ((wr.alloc (.cells #[.int .u8 (s.cpu.A : Int), .int .u8 (s.cpu.X : Int), .int .u8 (s.cpu.Y : Int), .int .u8 (s.cpu.S : Int), .int .u16 (s.cpu.PC : Int), .bool s.cpu.N, .bool s.cpu.V, .bool s.cpu.D, .bool s.cpu.I, .bool s.cpu.Z, .bool s.cpu.C] 28)).alloc (.cells #[] 105)) w310 := d311
              have b312 := bstep b308 d311
              have p313 := pI.below d311
              have p314 := oI.below d311
              have p315 := y303.below d311
              have s316 := mI.below d311
              have s317 := tI.below d311
              have s318 := sI.below d311
              have s319 := qI.below d311
              have z320 := Lib.hid d311.size
              clear b308 pI oI y303 mI tI sI qI d311
              replace p313 := Lib.hid p313
              replace p314 := Lib.hid p314
              replace p315 := Lib.hid p315
              replace s316 := Lib.hid s316
              replace s317 := Lib.hid s317
              replace s318 := Lib.hid s318
              replace s319 := Lib.hid s319
              replace b312 := Lib.hid b312
              go_wp2_with fail
              replace p313 := p313.out
              replace p314 := p314.out
              replace p315 := p315.out
              replace s316 := s316.out
              replace s317 := s317.out
              replace s318 := s318.out
              replace s319 := s319.out
              replace b312 := b312.out
              refine (HA2 _ b312).mono ?_
              rintro e w321 ⟨rfl, d322⟩
              have b323 := bstep b312 d322
              have p324 := p313.below d322
              have p325 := p314.below d322
              have p326 := p315.below d322
              have s327 := s316.below d322
              have s328 := s317.below d322
              have s329 := s318.below d322
              have s330 := s319.below d322
              have z331 := Lib.hid d322.size
              clear b312 p313 p314 p315 s316 s317 s318 s319 d322
              have ld332 : (Instr.loadAt 30 (.pointer (some ⟨P, 11, none⟩))).run Try.prog w321 = .ok (.agg #[.slice ma s.mem.length mc]) w321 := load_part p324 11 #[.slice ma s.mem.length mc] (by kernel_rfl) (by kernel_rfl) (by kernel_rfl)
              replace ld332 := Lib.hid ld332
              have ld333 : (Instr.loadAt 24 (.pointer (some ⟨P, 4, none⟩))).run Try.prog w321 = .ok (.int .u16 (s.cpu.PC : Int)) w321 := by
                have hc := p324.cell 4 (.int .u16 (s.cpu.PC : Int)) rfl
                simp [go_sem, hc]
              replace ld333 := Lib.hid ld333
              replace p324 := Lib.hid p324
              replace p325 := Lib.hid p325
              replace p326 := Lib.hid p326
              replace s327 := Lib.hid s327
              replace s328 := Lib.hid s328
              replace s329 := Lib.hid s329
              replace s330 := Lib.hid s330
              replace b323 := Lib.hid b323
              go_wp2_with (first | (with_reducible refine wpList_load_fit ld332.out ?_ ?_; focus (exact ⟨rfl, _, rfl, rfl⟩)) | (with_reducible refine wpList_load_fit ld333.out ?_ ?_; focus (exact ⟨rfl, _, rfl, rfl⟩)))
              replace p324 := p324.out
              replace p325 := p325.out
              replace p326 := p326.out
              replace s327 := s327.out
              replace s328 := s328.out
              replace s329 := s329.out
              replace s330 := s330.out
              replace b323 := b323.out
              clear ld332 ld333
              refine (HJ _ _ _ s327.row).mono ?_
              rintro e w334 ⟨rfl, d335⟩
              have b336 := bstep b323 d335
              have p337 := p324.below d335
              have p338 := p325.below d335
              have p339 := p326.below d335
              have s340 := s327.below d335
              have s341 := s328.below d335
              have s342 := s329.below d335
              have s343 := s330.below d335
              have z344 := Lib.hid d335.size
              clear b323 p324 p325 p326 s327 s328 s329 s330 d335
              obtain ⟨w345, hs346, q347, sp348, z349⟩ := store_one (ty := 4) (cs' := #[.int .u8 (s.cpu.A : Int), .int .u8 (s.cpu.X : Int), .int .u8 (s.cpu.Y : Int), .int .u8 (s.cpu.S : Int), .int .u16 (s.cpu.PC : Int), .bool s.cpu.N, .bool s.cpu.V, .bool s.cpu.D, .bool s.cpu.I, .bool s.cpu.Z, .bool s.cpu.C, .slice ma s.mem.length mc, .slice ta s.trace.length tc, .slice sa st.length sc, .slice pa s.cpus.length pc, .bool false]) p337 15 (.bool false) (by kernel_rfl) (by
                have hc := p337.cell 15 (.bool false) rfl
                have hf := p337.frozen 15
                simp [go_sem, hc, hf])
              replace z349 := Lib.hid z349
              replace hs346 := Lib.hid hs346
              have u351 := Lib.hid (And.intro zI.out (And.intro z309.out (And.intro z320.out (And.intro z331.out (And.intro z344.out z349.out)))))
              have b350 := b336.trans (sp348.below (by have := u351.out; omega) b336.size)
              have p352 := p338.span sp348 (by have := u351.out; omega)
              have p353 := p339.span sp348 (by have := u351.out; omega)
              have s354 := s340.span sp348 (by have := u351.out; omega)
              have s355 := s341.span sp348 (by have := u351.out; omega)
              have s356 := s342.span sp348 (by have := u351.out; omega)
              have s357 := s343.span sp348 (by have := u351.out; omega)
              have z358 := Lib.hid sp348.size
              clear b336 p338 p339 s340 s341 s342 s343 sp348
              have ld359 : (Instr.loadAt 28 (.pointer (some ⟨P, 0, none⟩))).run Try.prog w345 = .ok (.agg #[.int .u8 (s.cpu.A : Int), .int .u8 (s.cpu.X : Int), .int .u8 (s.cpu.Y : Int), .int .u8 (s.cpu.S : Int), .int .u16 (s.cpu.PC : Int), .bool s.cpu.N, .bool s.cpu.V, .bool s.cpu.D, .bool s.cpu.I, .bool s.cpu.Z, .bool s.cpu.C]) w345 := load_part q347 0 #[.int .u8 (s.cpu.A : Int), .int .u8 (s.cpu.X : Int), .int .u8 (s.cpu.Y : Int), .int .u8 (s.cpu.S : Int), .int .u16 (s.cpu.PC : Int), .bool s.cpu.N, .bool s.cpu.V, .bool s.cpu.D, .bool s.cpu.I, .bool s.cpu.Z, .bool s.cpu.C] (by kernel_rfl) (by kernel_rfl) (by kernel_rfl)
              replace ld359 := Lib.hid ld359
              have ld360 : (Instr.loadAt 30 (.pointer (some ⟨P, 11, none⟩))).run Try.prog w345 = .ok (.agg #[.slice ma s.mem.length mc]) w345 := load_part q347 11 #[.slice ma s.mem.length mc] (by kernel_rfl) (by kernel_rfl) (by kernel_rfl)
              replace ld360 := Lib.hid ld360
              clear p337
              replace p352 := Lib.hid p352
              replace p353 := Lib.hid p353
              replace q347 := Lib.hid q347
              replace s354 := Lib.hid s354
              replace s355 := Lib.hid s355
              replace s356 := Lib.hid s356
              replace s357 := Lib.hid s357
              replace b350 := Lib.hid b350
              go_wp2_with (first | (with_reducible refine wpList_store_fit hs346.out ?_ ?_; focus (exact ⟨rfl, rfl, _, _, rfl, rfl, rfl⟩)) | (with_reducible refine wpList_load_fit ld359.out ?_ ?_; focus (exact ⟨rfl, _, rfl, rfl⟩)) | (with_reducible refine wpList_load_fit ld360.out ?_ ?_; focus (exact ⟨rfl, _, rfl, rfl⟩)))
              replace p352 := p352.out
              replace p353 := p353.out
              replace q347 := q347.out
              replace s354 := s354.out
              replace s355 := s355.out
              replace s356 := s356.out
              replace s357 := s357.out
              replace b350 := b350.out
              clear hs346 ld359 ld360
              refine (HSV _ _ _ s354.row).mono ?_
              rintro e w361 hst
              obtain ⟨a363, c364, a365, c366, lo367, hi368, lo369, hi370, rfl, s371, s372, r373, d362⟩ := hst.three
              clear hst
              have r373h := Lib.hid r373
              have b374 := bstep b350 d362
              have p375 := p352.below d362
              have p376 := p353.below d362
              have p377 := q347.below d362
              have s378 := s354.below d362
              have s379 := s355.below d362
              have s380 := s356.below d362
              have s381 := s357.below d362
              have z382 := Lib.hid d362.size
              clear b350 p352 p353 q347 s354 s355 s356 s357 r373 d362
              obtain ⟨w383, hs384, q385, sp386, z387⟩ := store_part (ty := 28) (cs' := #[.int .u8 (r.1.A : Int), .int .u8 (r.1.X : Int), .int .u8 (r.1.Y : Int), .int .u8 (r.1.S : Int), .int .u16 (r.1.PC : Int), .bool r.1.N, .bool r.1.V, .bool r.1.D, .bool r.1.I, .bool r.1.Z, .bool r.1.C, .slice ma s.mem.length mc, .slice ta s.trace.length tc, .slice sa st.length sc, .slice pa s.cpus.length pc, .bool false]) p377 0 #[.int .u8 (r.1.A : Int), .int .u8 (r.1.X : Int), .int .u8 (r.1.Y : Int), .int .u8 (r.1.S : Int), .int .u16 (r.1.PC : Int), .bool r.1.N, .bool r.1.V, .bool r.1.D, .bool r.1.I, .bool r.1.Z, .bool r.1.C] (by kernel_rfl) (Nat.le_of_ble_eq_true (by kernel_rfl)) (by kernel_rfl) (by kernel_rfl)
              replace z387 := Lib.hid z387
              replace hs384 := Lib.hid hs384
              have u389 := Lib.hid (And.intro u351.out (And.intro z358.out (And.intro r373h.out (And.intro z382.out z387.out))))
              have b388 := b374.trans (sp386.below (by have := u389.out; omega) b374.size)
              have p390 := p375.span sp386 (by have := u389.out; omega)
              have p391 := p376.span sp386 (by have := u389.out; omega)
              have s392 := s378.span sp386 (by have := u389.out; omega)
              have s393 := s379.span sp386 (by have := u389.out; omega)
              have s394 := s380.span sp386 (by have := u389.out; omega)
              have s395 := s381.span sp386 (by have := u389.out; omega)
              have s396 := s371.span sp386 (by have := u389.out; omega)
              have s397 := s372.span sp386 (by have := u389.out; omega)
              have z398 := Lib.hid sp386.size
              clear b374 p375 p376 s378 s379 s380 s381 s371 s372 sp386
              obtain ⟨w399, hs400, q401, sp402, z403⟩ := store_part (ty := 30) (cs' := #[.int .u8 (r.1.A : Int), .int .u8 (r.1.X : Int), .int .u8 (r.1.Y : Int), .int .u8 (r.1.S : Int), .int .u16 (r.1.PC : Int), .bool r.1.N, .bool r.1.V, .bool r.1.D, .bool r.1.I, .bool r.1.Z, .bool r.1.C, .slice a363 r.2.mem.length c364, .slice ta s.trace.length tc, .slice sa st.length sc, .slice pa s.cpus.length pc, .bool false]) q385 11 #[.slice a363 r.2.mem.length c364] (by kernel_rfl) (Nat.le_of_ble_eq_true (by kernel_rfl)) (by kernel_rfl) (by kernel_rfl)
              replace z403 := Lib.hid z403
              replace hs400 := Lib.hid hs400
              have u405 := Lib.hid (And.intro u389.out (And.intro z398.out z403.out))
              have b404 := b388.trans (sp402.below (by have := u405.out; omega) b388.size)
              have p406 := p390.span sp402 (by have := u405.out; omega)
              have p407 := p391.span sp402 (by have := u405.out; omega)
              have s408 := s392.span sp402 (by have := u405.out; omega)
              have s409 := s393.span sp402 (by have := u405.out; omega)
              have s410 := s394.span sp402 (by have := u405.out; omega)
              have s411 := s395.span sp402 (by have := u405.out; omega)
              have s412 := s396.span sp402 (by have := u405.out; omega)
              have s413 := s397.span sp402 (by have := u405.out; omega)
              have z414 := Lib.hid sp402.size
              clear b388 p390 p391 s392 s393 s394 s395 s396 s397 sp402
              have ld415 : (Instr.loadAt 4 (.pointer (some ⟨P, 15, none⟩))).run Try.prog w399 = .ok (.bool false) w399 := by
                have hc := q401.cell 15 (.bool false) rfl
                simp [go_sem, hc]
              replace ld415 := Lib.hid ld415
              have ld416 : (Instr.loadAt 32 (.pointer (some ⟨P, 13, none⟩))).run Try.prog w399 = .ok (.slice sa st.length sc) w399 := by
                have hc := q401.cell 13 (.slice sa st.length sc) rfl
                simp [go_sem, hc]
              replace ld416 := Lib.hid ld416
              have ld417 : (Instr.loadAt 31 (.pointer (some ⟨P, 12, none⟩))).run Try.prog w399 = .ok (.slice ta s.trace.length tc) w399 := by
                have hc := q401.cell 12 (.slice ta s.trace.length tc) rfl
                simp [go_sem, hc]
              replace ld417 := Lib.hid ld417
              have y418 : BoxN (w399.alloc (.cells #[.int .i64 (s.trace.length : Int)] 3)) w399.heap.size 3 #[.int .i64 (s.trace.length : Int)] := by
                have h := BoxN.new w399 3 #[.int .i64 (s.trace.length : Int)]
                simpa only [World.size_alloc] using h
              have a419 := alw w399 (.cells #[.int .i64 (s.trace.length : Int)] 3)
              have b420 := bstep b404 a419
              replace p406 := p406.below a419
              replace p407 := p407.below a419
              replace q401 := q401.below a419
              replace s409 := s409.below a419
              replace s410 := s410.below a419
              replace s411 := s411.below a419
              replace s413 := s413.below a419
              replace s412 := s412.below a419
              clear a419
              have z421 : Hid ((w399.alloc (.cells #[.int .i64 (s.trace.length : Int)] 3)).heap.size = w399.heap.size + 1) := Lib.hid (by simp only [World.size_alloc])
              have u430 := Lib.hid (And.intro u405.out (And.intro z414.out z421.out))
              obtain ⟨g422, c423, w424, h425, s426, d427, r428, r429⟩ := starts_append s410 (by have := u430.out; omega) (by have := u430.out; omega) (s.trace.length : Int) _ y418 (by have := HST.out; have := HK.out; omega) 1
              replace r428 := Lib.hid r428
              replace r429 := Lib.hid r429
              replace h425 := Lib.hid h425
              have u432 := Lib.hid (And.intro u430.out (And.intro r428.out r429.out))
              have b431 := b420.trans (d427.below (by have := u432.out; omega) b420.size)
              have p433 := p406.span d427 (by have := u432.out; omega)
              have p434 := p407.span d427 (by have := u432.out; omega)
              have p435 := q401.span d427 (by have := u432.out; omega)
              have p436 := y418.span d427 (by have := u432.out; omega)
              have s437 := s409.span d427 (by have := u432.out; omega)
              have s438 := s411.span d427 (by have := u432.out; omega)
              have s439 := s413.span d427 (by have := u432.out; omega)
              have s440 := s412.span d427 (by have := u432.out; omega)
              have z441 := Lib.hid d427.size
              clear b420 p406 p407 q401 y418 s409 s411 s413 s412 d427
              obtain ⟨w442, hs443, q444, sp445, z446⟩ := store_one (ty := 32) (cs' := #[.int .u8 (r.1.A : Int), .int .u8 (r.1.X : Int), .int .u8 (r.1.Y : Int), .int .u8 (r.1.S : Int), .int .u16 (r.1.PC : Int), .bool r.1.N, .bool r.1.V, .bool r.1.D, .bool r.1.I, .bool r.1.Z, .bool r.1.C, .slice a363 r.2.mem.length c364, .slice ta s.trace.length tc, .slice (some ⟨g422, 0, none⟩) (st.length + 1) c423, .slice pa s.cpus.length pc, .bool false]) p435 13 (.slice (some ⟨g422, 0, none⟩) (st.length + 1) c423) (by kernel_rfl) (by
                have hc := p435.cell 13 (.slice sa st.length sc) rfl
                have hf := p435.frozen 13
                simp [go_sem, hc, hf])
              replace z446 := Lib.hid z446
              replace hs443 := Lib.hid hs443
              have u448 := Lib.hid (And.intro u432.out (And.intro z441.out z446.out))
              have b447 := b431.trans (sp445.below (by have := u448.out; omega) b431.size)
              have p449 := p433.span sp445 (by have := u448.out; omega)
              have p450 := p434.span sp445 (by have := u448.out; omega)
              have s451 := s437.span sp445 (by have := u448.out; omega)
              have s452 := s438.span sp445 (by have := u448.out; omega)
              have s453 := s439.span sp445 (by have := u448.out; omega)
              have s454 := s440.span sp445 (by have := u448.out; omega)
              have s455 := s426.span sp445 (by have := u448.out; omega)
              have z456 := Lib.hid sp445.size
              clear b431 p433 p434 s437 s438 s439 s440 s426 sp445
              have ld457 : (Instr.loadAt 33 (.pointer (some ⟨P, 14, none⟩))).run Try.prog w442 = .ok (.slice pa s.cpus.length pc) w442 := by
                have hc := q444.cell 14 (.slice pa s.cpus.length pc) rfl
                simp [go_sem, hc]
              replace ld457 := Lib.hid ld457
              have ld458 : (Instr.loadAt 28 (.pointer (some ⟨wr.heap.size, 0, none⟩))).run Try.prog w442 = .ok (.agg #[.int .u8 (s.cpu.A : Int), .int .u8 (s.cpu.X : Int), .int .u8 (s.cpu.Y : Int), .int .u8 (s.cpu.S : Int), .int .u16 (s.cpu.PC : Int), .bool s.cpu.N, .bool s.cpu.V, .bool s.cpu.D, .bool s.cpu.I, .bool s.cpu.Z, .bool s.cpu.C]) w442 := load_part p450 0 #[.int .u8 (s.cpu.A : Int), .int .u8 (s.cpu.X : Int), .int .u8 (s.cpu.Y : Int), .int .u8 (s.cpu.S : Int), .int .u16 (s.cpu.PC : Int), .bool s.cpu.N, .bool s.cpu.V, .bool s.cpu.D, .bool s.cpu.I, .bool s.cpu.Z, .bool s.cpu.C] (by kernel_rfl) (by kernel_rfl) (by kernel_rfl)
              replace ld458 := Lib.hid ld458
              have y459 : BoxN (w442.alloc (.cells #[.int .u8 (s.cpu.A : Int), .int .u8 (s.cpu.X : Int), .int .u8 (s.cpu.Y : Int), .int .u8 (s.cpu.S : Int), .int .u16 (s.cpu.PC : Int), .bool s.cpu.N, .bool s.cpu.V, .bool s.cpu.D, .bool s.cpu.I, .bool s.cpu.Z, .bool s.cpu.C] 28)) w442.heap.size 28 #[.int .u8 (s.cpu.A : Int), .int .u8 (s.cpu.X : Int), .int .u8 (s.cpu.Y : Int), .int .u8 (s.cpu.S : Int), .int .u16 (s.cpu.PC : Int), .bool s.cpu.N, .bool s.cpu.V, .bool s.cpu.D, .bool s.cpu.I, .bool s.cpu.Z, .bool s.cpu.C] := by
                have h := BoxN.new w442 28 #[.int .u8 (s.cpu.A : Int), .int .u8 (s.cpu.X : Int), .int .u8 (s.cpu.Y : Int), .int .u8 (s.cpu.S : Int), .int .u16 (s.cpu.PC : Int), .bool s.cpu.N, .bool s.cpu.V, .bool s.cpu.D, .bool s.cpu.I, .bool s.cpu.Z, .bool s.cpu.C]
                simpa only [World.size_alloc] using h
              have a460 := alw w442 (.cells #[.int .u8 (s.cpu.A : Int), .int .u8 (s.cpu.X : Int), .int .u8 (s.cpu.Y : Int), .int .u8 (s.cpu.S : Int), .int .u16 (s.cpu.PC : Int), .bool s.cpu.N, .bool s.cpu.V, .bool s.cpu.D, .bool s.cpu.I, .bool s.cpu.Z, .bool s.cpu.C] 28)
              have b461 := bstep b447 a460
              replace p449 := p449.below a460
              replace p450 := p450.below a460
              replace q444 := q444.below a460
              replace s451 := s451.below a460
              replace s452 := s452.below a460
              replace s453 := s453.below a460
              replace s454 := s454.below a460
              replace s455 := s455.below a460
              clear a460
              have z462 : Hid ((w442.alloc (.cells #[.int .u8 (s.cpu.A : Int), .int .u8 (s.cpu.X : Int), .int .u8 (s.cpu.Y : Int), .int .u8 (s.cpu.S : Int), .int .u16 (s.cpu.PC : Int), .bool s.cpu.N, .bool s.cpu.V, .bool s.cpu.D, .bool s.cpu.I, .bool s.cpu.Z, .bool s.cpu.C] 28)).heap.size = w442.heap.size + 1) := Lib.hid (by simp only [World.size_alloc])
              have u471 := Lib.hid (And.intro u448.out (And.intro z456.out z462.out))
              obtain ⟨g463, c464, w465, h466, s467, d468, r469, r470⟩ := cpus_append s452 (by have := u471.out; omega) (by have := u471.out; omega) s.cpu _ y459 (by have := HU.out.cpus; have := HK.out; omega) 1
              replace r469 := Lib.hid r469
              replace r470 := Lib.hid r470
              replace h466 := Lib.hid h466
              have u473 := Lib.hid (And.intro u471.out (And.intro r469.out r470.out))
              have b472 := b461.trans (d468.below (by have := u473.out; omega) b461.size)
              have p474 := p449.span d468 (by have := u473.out; omega)
              have p475 := p450.span d468 (by have := u473.out; omega)
              have p476 := q444.span d468 (by have := u473.out; omega)
              have p477 := y459.span d468 (by have := u473.out; omega)
              have s478 := s451.span d468 (by have := u473.out; omega)
              have s479 := s453.span d468 (by have := u473.out; omega)
              have s480 := s454.span d468 (by have := u473.out; omega)
              have s481 := s455.span d468 (by have := u473.out; omega)
              have z482 := Lib.hid d468.size
              clear b461 p449 p450 q444 y459 s451 s453 s454 s455 d468
              obtain ⟨w483, hs484, q485, sp486, z487⟩ := store_one (ty := 33) (cs' := #[.int .u8 (r.1.A : Int), .int .u8 (r.1.X : Int), .int .u8 (r.1.Y : Int), .int .u8 (r.1.S : Int), .int .u16 (r.1.PC : Int), .bool r.1.N, .bool r.1.V, .bool r.1.D, .bool r.1.I, .bool r.1.Z, .bool r.1.C, .slice a363 r.2.mem.length c364, .slice ta s.trace.length tc, .slice (some ⟨g422, 0, none⟩) (st.length + 1) c423, .slice (some ⟨g463, 0, none⟩) (s.cpus.length + 1) c464, .bool false]) p476 14 (.slice (some ⟨g463, 0, none⟩) (s.cpus.length + 1) c464) (by kernel_rfl) (by
                have hc := p476.cell 14 (.slice pa s.cpus.length pc) rfl
                have hf := p476.frozen 14
                simp [go_sem, hc, hf])
              replace z487 := Lib.hid z487
              replace hs484 := Lib.hid hs484
              have u489 := Lib.hid (And.intro u473.out (And.intro z482.out z487.out))
              have b488 := b472.trans (sp486.below (by have := u489.out; omega) b472.size)
              have p490 := p474.span sp486 (by have := u489.out; omega)
              have p491 := p475.span sp486 (by have := u489.out; omega)
              have s492 := s478.span sp486 (by have := u489.out; omega)
              have s493 := s479.span sp486 (by have := u489.out; omega)
              have s494 := s480.span sp486 (by have := u489.out; omega)
              have s495 := s481.span sp486 (by have := u489.out; omega)
              have s496 := s467.span sp486 (by have := u489.out; omega)
              have z497 := Lib.hid sp486.size
              clear b472 p474 p475 s478 s479 s480 s481 s467 sp486
              have ld498 : (Instr.loadAt 31 (.pointer (some ⟨P, 12, none⟩))).run Try.prog w483 = .ok (.slice ta s.trace.length tc) w483 := by
                have hc := q485.cell 12 (.slice ta s.trace.length tc) rfl
                simp [go_sem, hc]
              replace ld498 := Lib.hid ld498
              have u507 := Lib.hid (And.intro u489.out z497.out)
              obtain ⟨g499, c500, w501, h502, s503, d504, r505, r506⟩ := trace_append s492 (by have := u507.out; omega) (by have := u507.out; omega) s493 HL0.out (by have := HU.out.many; have := HK.out; omega) (by have := HL8.out; omega)
              replace r505 := Lib.hid r505
              replace r506 := Lib.hid r506
              replace h502 := Lib.hid h502
              have u509 := Lib.hid (And.intro u507.out (And.intro r505.out r506.out))
              have b508 := b488.trans (d504.below (by have := u509.out; omega) b488.size)
              have p510 := p490.span d504 (by have := u509.out; omega)
              have p511 := p491.span d504 (by have := u509.out; omega)
              have p512 := q485.span d504 (by have := u509.out; omega)
              have s513 := s493.span d504 (by have := u509.out; omega)
              have s514 := s494.span d504 (by have := u509.out; omega)
              have s515 := s495.span d504 (by have := u509.out; omega)
              have s516 := s496.span d504 (by have := u509.out; omega)
              have z517 := Lib.hid d504.size
              clear b488 p490 p491 q485 s493 s494 s495 s496 d504
              obtain ⟨w518, hs519, q520, sp521, z522⟩ := store_one (ty := 31) (cs' := #[.int .u8 (r.1.A : Int), .int .u8 (r.1.X : Int), .int .u8 (r.1.Y : Int), .int .u8 (r.1.S : Int), .int .u16 (r.1.PC : Int), .bool r.1.N, .bool r.1.V, .bool r.1.D, .bool r.1.I, .bool r.1.Z, .bool r.1.C, .slice a363 r.2.mem.length c364, .slice (some ⟨g499, 0, none⟩) (s.trace.length + r.2.log.length) c500, .slice (some ⟨g422, 0, none⟩) (st.length + 1) c423, .slice (some ⟨g463, 0, none⟩) (s.cpus.length + 1) c464, .bool false]) p512 12 (.slice (some ⟨g499, 0, none⟩) (s.trace.length + r.2.log.length) c500) (by kernel_rfl) (by
                have hc := p512.cell 12 (.slice ta s.trace.length tc) rfl
                have hf := p512.frozen 12
                simp [go_sem, hc, hf])
              replace z522 := Lib.hid z522
              replace hs519 := Lib.hid hs519
              have u524 := Lib.hid (And.intro u509.out (And.intro z517.out z522.out))
              have b523 := b508.trans (sp521.below (by have := u524.out; omega) b508.size)
              have p525 := p510.span sp521 (by have := u524.out; omega)
              have p526 := p511.span sp521 (by have := u524.out; omega)
              have s527 := s513.span sp521 (by have := u524.out; omega)
              have s528 := s514.span sp521 (by have := u524.out; omega)
              have s529 := s515.span sp521 (by have := u524.out; omega)
              have s530 := s516.span sp521 (by have := u524.out; omega)
              have s531 := s503.span sp521 (by have := u524.out; omega)
              have z532 := Lib.hid sp521.size
              clear b508 p510 p511 s513 s514 s515 s516 s503 sp521
              clear p377 q385 s408 b404 s410 p435 b447 s452 p476 s492 p512
              replace p525 := Lib.hid p525
              replace p526 := Lib.hid p526
              replace q520 := Lib.hid q520
              replace s527 := Lib.hid s527
              replace s528 := Lib.hid s528
              replace s529 := Lib.hid s529
              replace s530 := Lib.hid s530
              replace s531 := Lib.hid s531
              replace b523 := Lib.hid b523
              go_wp2_with (first | (with_reducible refine wpList_store_fit hs384.out ?_ ?_; focus (exact ⟨rfl, rfl, _, _, rfl, rfl, rfl⟩)) | (with_reducible refine wpList_store_fit hs400.out ?_ ?_; focus (exact ⟨rfl, rfl, _, _, rfl, rfl, rfl⟩)) | (with_reducible refine wpList_load_fit ld415.out ?_ ?_; focus (exact ⟨rfl, _, rfl, rfl⟩)) | (with_reducible refine wpList_load_fit ld416.out ?_ ?_; focus (exact ⟨rfl, _, rfl, rfl⟩)) | (with_reducible refine wpList_load_fit ld417.out ?_ ?_; focus (exact ⟨rfl, _, rfl, rfl⟩)) | (at_builtin; refine wpList_append_run h425.out rfl rfl rfl rfl ?_) | (with_reducible refine wpList_store_fit hs443.out ?_ ?_; focus (exact ⟨rfl, rfl, _, _, rfl, rfl, rfl⟩)) | (with_reducible refine wpList_load_fit ld457.out ?_ ?_; focus (exact ⟨rfl, _, rfl, rfl⟩)) | (with_reducible refine wpList_load_fit ld458.out ?_ ?_; focus (exact ⟨rfl, _, rfl, rfl⟩)) | (at_builtin; refine wpList_append_run h466.out rfl rfl rfl rfl ?_) | (with_reducible refine wpList_store_fit hs484.out ?_ ?_; focus (exact ⟨rfl, rfl, _, _, rfl, rfl, rfl⟩)) | (with_reducible refine wpList_load_fit ld498.out ?_ ?_; focus (exact ⟨rfl, _, rfl, rfl⟩)) | (at_builtin; refine wpList_append_run h502.out rfl rfl rfl rfl ?_) | (with_reducible refine wpList_store_fit hs519.out ?_ ?_; focus (exact ⟨rfl, rfl, _, _, rfl, rfl, rfl⟩)))
              replace p525 := p525.out
              replace p526 := p526.out
              replace q520 := q520.out
              replace s527 := s527.out
              replace s528 := s528.out
              replace s529 := s529.out
              replace s530 := s530.out
              replace s531 := s531.out
              replace b523 := b523.out
              have u533 := Lib.hid (And.intro u524.out z532.out)
              go_roundw
              case rel =>
                refine ⟨k + 1, by go_num, by omega, Lib.hid ⟨s.on r, st ++ [(s.trace.length : Int)], _, _, _, _, _, _, _, _, _, _, _, _, lo367, hi368, g499, (g499 + 1), g422, (g422 + 1), g463, (g463 + 1), rfl, (List.length_append ..).symm, (List.length_append ..).symm, (List.length_append ..).symm, ?_, HUN.out, q520, p525, s528, s531, s529, s530, by have := u533.out; unfold Places; omega, b523⟩⟩
                rw [HSM.out]
                show _ = (s.starts ++ [s.trace.length]).map _
                rw [List.map_append]; rfl
              case measure => simp [intOf]; omega
            | true =>
              have hfi2 : s.cpu.I = true := by
                cases hx : fi with
                | true => rw [hfi, hx]
                | false => exact absurd ⟨rfl, hx⟩ hq
              have HFI := Lib.hid hfi2
              clear hq hfi hfi2
              have c301 := pI.cell 15 (.bool false) rfl
              have ld302 : (Instr.loadAt 28 (.pointer (some ⟨P, 0, none⟩))).run Try.prog wr = .ok (.agg #[.int .u8 (s.cpu.A : Int), .int .u8 (s.cpu.X : Int), .int .u8 (s.cpu.Y : Int), .int .u8 (s.cpu.S : Int), .int .u16 (s.cpu.PC : Int), .bool s.cpu.N, .bool s.cpu.V, .bool s.cpu.D, .bool s.cpu.I, .bool s.cpu.Z, .bool s.cpu.C]) wr := load_part pI 0 #[.int .u8 (s.cpu.A : Int), .int .u8 (s.cpu.X : Int), .int .u8 (s.cpu.Y : Int), .int .u8 (s.cpu.S : Int), .int .u16 (s.cpu.PC : Int), .bool s.cpu.N, .bool s.cpu.V, .bool s.cpu.D, .bool s.cpu.I, .bool s.cpu.Z, .bool s.cpu.C] (by kernel_rfl) (by kernel_rfl) (by kernel_rfl)
              replace ld302 := Lib.hid ld302
              have y303 : BoxN (wr.alloc (.cells #[.int .u8 (s.cpu.A : Int), .int .u8 (s.cpu.X : Int), .int .u8 (s.cpu.Y : Int), .int .u8 (s.cpu.S : Int), .int .u16 (s.cpu.PC : Int), .bool s.cpu.N, .bool s.cpu.V, .bool s.cpu.D, .bool s.cpu.I, .bool s.cpu.Z, .bool s.cpu.C] 28)) wr.heap.size 28 #[.int .u8 (s.cpu.A : Int), .int .u8 (s.cpu.X : Int), .int .u8 (s.cpu.Y : Int), .int .u8 (s.cpu.S : Int), .int .u16 (s.cpu.PC : Int), .bool s.cpu.N, .bool s.cpu.V, .bool s.cpu.D, .bool s.cpu.I, .bool s.cpu.Z, .bool s.cpu.C] := by
                have h := BoxN.new wr 28 #[.int .u8 (s.cpu.A : Int), .int .u8 (s.cpu.X : Int), .int .u8 (s.cpu.Y : Int), .int .u8 (s.cpu.S : Int), .int .u16 (s.cpu.PC : Int), .bool s.cpu.N, .bool s.cpu.V, .bool s.cpu.D, .bool s.cpu.I, .bool s.cpu.Z, .bool s.cpu.C]
                simpa only [World.size_alloc] using h
              have a304 := alw wr (.cells #[.int .u8 (s.cpu.A : Int), .int .u8 (s.cpu.X : Int), .int .u8 (s.cpu.Y : Int), .int .u8 (s.cpu.S : Int), .int .u16 (s.cpu.PC : Int), .bool s.cpu.N, .bool s.cpu.V, .bool s.cpu.D, .bool s.cpu.I, .bool s.cpu.Z, .bool s.cpu.C] 28)
              have b305 := bstep bI a304
              replace pI := pI.below a304
              replace oI := oI.below a304
              replace mI := mI.below a304
              replace tI := tI.below a304
              replace sI := sI.below a304
              replace qI := qI.below a304
              have y306 : BoxN ((wr.alloc (.cells #[.int .u8 (s.cpu.A : Int), .int .u8 (s.cpu.X : Int), .int .u8 (s.cpu.Y : Int), .int .u8 (s.cpu.S : Int), .int .u16 (s.cpu.PC : Int), .bool s.cpu.N, .bool s.cpu.V, .bool s.cpu.D, .bool s.cpu.I, .bool s.cpu.Z, .bool s.cpu.C] 28)).alloc (.cells #[] 105)) (wr.heap.size + 1) 105 #[] := by
                have h := BoxN.new (wr.alloc (.cells #[.int .u8 (s.cpu.A : Int), .int .u8 (s.cpu.X : Int), .int .u8 (s.cpu.Y : Int), .int .u8 (s.cpu.S : Int), .int .u16 (s.cpu.PC : Int), .bool s.cpu.N, .bool s.cpu.V, .bool s.cpu.D, .bool s.cpu.I, .bool s.cpu.Z, .bool s.cpu.C] 28)) 105 #[]
                simpa only [World.size_alloc] using h
              have a307 := alw (wr.alloc (.cells #[.int .u8 (s.cpu.A : Int), .int .u8 (s.cpu.X : Int), .int .u8 (s.cpu.Y : Int), .int .u8 (s.cpu.S : Int), .int .u16 (s.cpu.PC : Int), .bool s.cpu.N, .bool s.cpu.V, .bool s.cpu.D, .bool s.cpu.I, .bool s.cpu.Z, .bool s.cpu.C] 28)) (.cells #[] 105)
              have b308 := bstep b305 a307
              replace y303 := y303.below a307
              replace pI := pI.below a307
              replace oI := oI.below a307
              replace mI := mI.below a307
              replace tI := tI.below a307
              replace sI := sI.below a307
              replace qI := qI.below a307
              clear a304 a307
              have z309 : Hid (((wr.alloc (.cells #[.int .u8 (s.cpu.A : Int), .int .u8 (s.cpu.X : Int), .int .u8 (s.cpu.Y : Int), .int .u8 (s.cpu.S : Int), .int .u16 (s.cpu.PC : Int), .bool s.cpu.N, .bool s.cpu.V, .bool s.cpu.D, .bool s.cpu.I, .bool s.cpu.Z, .bool s.cpu.C] 28)).alloc (.cells #[] 105)).heap.size = wr.heap.size + 2) := Lib.hid (by simp only [World.size_alloc])
              clear bI b305
              replace pI := Lib.hid pI
              replace oI := Lib.hid oI
              replace y303 := Lib.hid y303
              replace mI := Lib.hid mI
              replace tI := Lib.hid tI
              replace sI := Lib.hid sI
              replace qI := Lib.hid qI
              replace b308 := Lib.hid b308
              go_wp2_with ((with_reducible refine wpList_load_fit ld302.out ?_ ?_; focus (exact ⟨rfl, _, rfl, rfl⟩)))
              replace pI := pI.out
              replace oI := oI.out
              replace y303 := y303.out
              replace mI := mI.out
              replace tI := tI.out
              replace sI := sI.out
              replace qI := qI.out
              replace b308 := b308.out
              clear c301 ld302
              refine (HA1 _ b308).mono ?_
              rintro e w310 ⟨rfl, d311⟩
              replace d311 : Below ((wr.alloc (.cells #[.int .u8 (s.cpu.A : Int), .int .u8 (s.cpu.X : Int), .int .u8 (s.cpu.Y : Int), .int .u8 (s.cpu.S : Int), .int .u16 (s.cpu.PC : Int), .bool s.cpu.N, .bool s.cpu.V, .bool s.cpu.D, .bool s.cpu.I, .bool s.cpu.Z, .bool s.cpu.C] 28)).alloc (.cells #[] 105)).heap.size ((wr.alloc (.cells #[.int .u8 (s.cpu.A : Int), .int .u8 (s.cpu.X : Int), .int .u8 (s.cpu.Y : Int), .int .u8 (s.cpu.S : Int), .int .u16 (s.cpu.PC : Int), .bool s.cpu.N, .bool s.cpu.V, .bool s.cpu.D, .bool s.cpu.I, .bool s.cpu.Z, .bool s.cpu.C] 28)).alloc (.cells #[] 105)) w310 := d311
              have b312 := bstep b308 d311
              have p313 := pI.below d311
              have p314 := oI.below d311
              have p315 := y303.below d311
              have s316 := mI.below d311
              have s317 := tI.below d311
              have s318 := sI.below d311
              have s319 := qI.below d311
              have z320 := Lib.hid d311.size
              clear b308 pI oI y303 mI tI sI qI d311
              replace p313 := Lib.hid p313
              replace p314 := Lib.hid p314
              replace p315 := Lib.hid p315
              replace s316 := Lib.hid s316
              replace s317 := Lib.hid s317
              replace s318 := Lib.hid s318
              replace s319 := Lib.hid s319
              replace b312 := Lib.hid b312
              go_wp2_with fail
              replace p313 := p313.out
              replace p314 := p314.out
              replace p315 := p315.out
              replace s316 := s316.out
              replace s317 := s317.out
              replace s318 := s318.out
              replace s319 := s319.out
              replace b312 := b312.out
              refine (HA2 _ b312).mono ?_
              rintro e w321 ⟨rfl, d322⟩
              have b323 := bstep b312 d322
              have p324 := p313.below d322
              have p325 := p314.below d322
              have p326 := p315.below d322
              have s327 := s316.below d322
              have s328 := s317.below d322
              have s329 := s318.below d322
              have s330 := s319.below d322
              have z331 := Lib.hid d322.size
              clear b312 p313 p314 p315 s316 s317 s318 s319 d322
              have c332 := p324.cell 8 (.bool s.cpu.I) rfl
              rw [HFI.out] at c332
              have ld333 : (Instr.loadAt 30 (.pointer (some ⟨P, 11, none⟩))).run Try.prog w321 = .ok (.agg #[.slice ma s.mem.length mc]) w321 := load_part p324 11 #[.slice ma s.mem.length mc] (by kernel_rfl) (by kernel_rfl) (by kernel_rfl)
              replace ld333 := Lib.hid ld333
              have ld334 : (Instr.loadAt 24 (.pointer (some ⟨P, 4, none⟩))).run Try.prog w321 = .ok (.int .u16 (s.cpu.PC : Int)) w321 := by
                have hc := p324.cell 4 (.int .u16 (s.cpu.PC : Int)) rfl
                simp [go_sem, hc]
              replace ld334 := Lib.hid ld334
              replace p324 := Lib.hid p324
              replace p325 := Lib.hid p325
              replace p326 := Lib.hid p326
              replace s327 := Lib.hid s327
              replace s328 := Lib.hid s328
              replace s329 := Lib.hid s329
              replace s330 := Lib.hid s330
              replace b323 := Lib.hid b323
              go_wp2_with (first | (with_reducible refine wpList_load_fit ld333.out ?_ ?_; focus (exact ⟨rfl, _, rfl, rfl⟩)) | (with_reducible refine wpList_load_fit ld334.out ?_ ?_; focus (exact ⟨rfl, _, rfl, rfl⟩)))
              replace p324 := p324.out
              replace p325 := p325.out
              replace p326 := p326.out
              replace s327 := s327.out
              replace s328 := s328.out
              replace s329 := s329.out
              replace s330 := s330.out
              replace b323 := b323.out
              clear c332 ld333 ld334
              refine (HJ _ _ _ s327.row).mono ?_
              rintro e w335 ⟨rfl, d336⟩
              have b337 := bstep b323 d336
              have p338 := p324.below d336
              have p339 := p325.below d336
              have p340 := p326.below d336
              have s341 := s327.below d336
              have s342 := s328.below d336
              have s343 := s329.below d336
              have s344 := s330.below d336
              have z345 := Lib.hid d336.size
              clear b323 p324 p325 p326 s327 s328 s329 s330 d336
              obtain ⟨w346, hs347, q348, sp349, z350⟩ := store_one (ty := 4) (cs' := #[.int .u8 (s.cpu.A : Int), .int .u8 (s.cpu.X : Int), .int .u8 (s.cpu.Y : Int), .int .u8 (s.cpu.S : Int), .int .u16 (s.cpu.PC : Int), .bool s.cpu.N, .bool s.cpu.V, .bool s.cpu.D, .bool s.cpu.I, .bool s.cpu.Z, .bool s.cpu.C, .slice ma s.mem.length mc, .slice ta s.trace.length tc, .slice sa st.length sc, .slice pa s.cpus.length pc, .bool false]) p338 15 (.bool false) (by kernel_rfl) (by
                have hc := p338.cell 15 (.bool false) rfl
                have hf := p338.frozen 15
                simp [go_sem, hc, hf])
              replace z350 := Lib.hid z350
              replace hs347 := Lib.hid hs347
              have u352 := Lib.hid (And.intro zI.out (And.intro z309.out (And.intro z320.out (And.intro z331.out (And.intro z345.out z350.out)))))
              have b351 := b337.trans (sp349.below (by have := u352.out; omega) b337.size)
              have p353 := p339.span sp349 (by have := u352.out; omega)
              have p354 := p340.span sp349 (by have := u352.out; omega)
              have s355 := s341.span sp349 (by have := u352.out; omega)
              have s356 := s342.span sp349 (by have := u352.out; omega)
              have s357 := s343.span sp349 (by have := u352.out; omega)
              have s358 := s344.span sp349 (by have := u352.out; omega)
              have z359 := Lib.hid sp349.size
              clear b337 p339 p340 s341 s342 s343 s344 sp349
              have ld360 : (Instr.loadAt 28 (.pointer (some ⟨P, 0, none⟩))).run Try.prog w346 = .ok (.agg #[.int .u8 (s.cpu.A : Int), .int .u8 (s.cpu.X : Int), .int .u8 (s.cpu.Y : Int), .int .u8 (s.cpu.S : Int), .int .u16 (s.cpu.PC : Int), .bool s.cpu.N, .bool s.cpu.V, .bool s.cpu.D, .bool s.cpu.I, .bool s.cpu.Z, .bool s.cpu.C]) w346 := load_part q348 0 #[.int .u8 (s.cpu.A : Int), .int .u8 (s.cpu.X : Int), .int .u8 (s.cpu.Y : Int), .int .u8 (s.cpu.S : Int), .int .u16 (s.cpu.PC : Int), .bool s.cpu.N, .bool s.cpu.V, .bool s.cpu.D, .bool s.cpu.I, .bool s.cpu.Z, .bool s.cpu.C] (by kernel_rfl) (by kernel_rfl) (by kernel_rfl)
              replace ld360 := Lib.hid ld360
              have ld361 : (Instr.loadAt 30 (.pointer (some ⟨P, 11, none⟩))).run Try.prog w346 = .ok (.agg #[.slice ma s.mem.length mc]) w346 := load_part q348 11 #[.slice ma s.mem.length mc] (by kernel_rfl) (by kernel_rfl) (by kernel_rfl)
              replace ld361 := Lib.hid ld361
              clear p338
              replace p353 := Lib.hid p353
              replace p354 := Lib.hid p354
              replace q348 := Lib.hid q348
              replace s355 := Lib.hid s355
              replace s356 := Lib.hid s356
              replace s357 := Lib.hid s357
              replace s358 := Lib.hid s358
              replace b351 := Lib.hid b351
              go_wp2_with (first | (with_reducible refine wpList_store_fit hs347.out ?_ ?_; focus (exact ⟨rfl, rfl, _, _, rfl, rfl, rfl⟩)) | (with_reducible refine wpList_load_fit ld360.out ?_ ?_; focus (exact ⟨rfl, _, rfl, rfl⟩)) | (with_reducible refine wpList_load_fit ld361.out ?_ ?_; focus (exact ⟨rfl, _, rfl, rfl⟩)))
              replace p353 := p353.out
              replace p354 := p354.out
              replace q348 := q348.out
              replace s355 := s355.out
              replace s356 := s356.out
              replace s357 := s357.out
              replace s358 := s358.out
              replace b351 := b351.out
              clear hs347 ld360 ld361
              refine (HSV _ _ _ s355.row).mono ?_
              rintro e w362 hst
              obtain ⟨a364, c365, a366, c367, lo368, hi369, lo370, hi371, rfl, s372, s373, r374, d363⟩ := hst.three
              clear hst
              have r374h := Lib.hid r374
              have b375 := bstep b351 d363
              have p376 := p353.below d363
              have p377 := p354.below d363
              have p378 := q348.below d363
              have s379 := s355.below d363
              have s380 := s356.below d363
              have s381 := s357.below d363
              have s382 := s358.below d363
              have z383 := Lib.hid d363.size
              clear b351 p353 p354 q348 s355 s356 s357 s358 r374 d363
              obtain ⟨w384, hs385, q386, sp387, z388⟩ := store_part (ty := 28) (cs' := #[.int .u8 (r.1.A : Int), .int .u8 (r.1.X : Int), .int .u8 (r.1.Y : Int), .int .u8 (r.1.S : Int), .int .u16 (r.1.PC : Int), .bool r.1.N, .bool r.1.V, .bool r.1.D, .bool r.1.I, .bool r.1.Z, .bool r.1.C, .slice ma s.mem.length mc, .slice ta s.trace.length tc, .slice sa st.length sc, .slice pa s.cpus.length pc, .bool false]) p378 0 #[.int .u8 (r.1.A : Int), .int .u8 (r.1.X : Int), .int .u8 (r.1.Y : Int), .int .u8 (r.1.S : Int), .int .u16 (r.1.PC : Int), .bool r.1.N, .bool r.1.V, .bool r.1.D, .bool r.1.I, .bool r.1.Z, .bool r.1.C] (by kernel_rfl) (Nat.le_of_ble_eq_true (by kernel_rfl)) (by kernel_rfl) (by kernel_rfl)
              replace z388 := Lib.hid z388
              replace hs385 := Lib.hid hs385
              have u390 := Lib.hid (And.intro u352.out (And.intro z359.out (And.intro r374h.out (And.intro z383.out z388.out))))
              have b389 := b375.trans (sp387.below (by have := u390.out; omega) b375.size)
              have p391 := p376.span sp387 (by have := u390.out; omega)
              have p392 := p377.span sp387 (by have := u390.out; omega)
              have s393 := s379.span sp387 (by have := u390.out; omega)
              have s394 := s380.span sp387 (by have := u390.out; omega)
              have s395 := s381.span sp387 (by have := u390.out; omega)
              have s396 := s382.span sp387 (by have := u390.out; omega)
              have s397 := s372.span sp387 (by have := u390.out; omega)
              have s398 := s373.span sp387 (by have := u390.out; omega)
              have z399 := Lib.hid sp387.size
              clear b375 p376 p377 s379 s380 s381 s382 s372 s373 sp387
              obtain ⟨w400, hs401, q402, sp403, z404⟩ := store_part (ty := 30) (cs' := #[.int .u8 (r.1.A : Int), .int .u8 (r.1.X : Int), .int .u8 (r.1.Y : Int), .int .u8 (r.1.S : Int), .int .u16 (r.1.PC : Int), .bool r.1.N, .bool r.1.V, .bool r.1.D, .bool r.1.I, .bool r.1.Z, .bool r.1.C, .slice a364 r.2.mem.length c365, .slice ta s.trace.length tc, .slice sa st.length sc, .slice pa s.cpus.length pc, .bool false]) q386 11 #[.slice a364 r.2.mem.length c365] (by kernel_rfl) (Nat.le_of_ble_eq_true (by kernel_rfl)) (by kernel_rfl) (by kernel_rfl)
              replace z404 := Lib.hid z404
              replace hs401 := Lib.hid hs401
              have u406 := Lib.hid (And.intro u390.out (And.intro z399.out z404.out))
              have b405 := b389.trans (sp403.below (by have := u406.out; omega) b389.size)
              have p407 := p391.span sp403 (by have := u406.out; omega)
              have p408 := p392.span sp403 (by have := u406.out; omega)
              have s409 := s393.span sp403 (by have := u406.out; omega)
              have s410 := s394.span sp403 (by have := u406.out; omega)
              have s411 := s395.span sp403 (by have := u406.out; omega)
              have s412 := s396.span sp403 (by have := u406.out; omega)
              have s413 := s397.span sp403 (by have := u406.out; omega)
              have s414 := s398.span sp403 (by have := u406.out; omega)
              have z415 := Lib.hid sp403.size
              clear b389 p391 p392 s393 s394 s395 s396 s397 s398 sp403
              have ld416 : (Instr.loadAt 4 (.pointer (some ⟨P, 15, none⟩))).run Try.prog w400 = .ok (.bool false) w400 := by
                have hc := q402.cell 15 (.bool false) rfl
                simp [go_sem, hc]
              replace ld416 := Lib.hid ld416
              have ld417 : (Instr.loadAt 32 (.pointer (some ⟨P, 13, none⟩))).run Try.prog w400 = .ok (.slice sa st.length sc) w400 := by
                have hc := q402.cell 13 (.slice sa st.length sc) rfl
                simp [go_sem, hc]
              replace ld417 := Lib.hid ld417
              have ld418 : (Instr.loadAt 31 (.pointer (some ⟨P, 12, none⟩))).run Try.prog w400 = .ok (.slice ta s.trace.length tc) w400 := by
                have hc := q402.cell 12 (.slice ta s.trace.length tc) rfl
                simp [go_sem, hc]
              replace ld418 := Lib.hid ld418
              have y419 : BoxN (w400.alloc (.cells #[.int .i64 (s.trace.length : Int)] 3)) w400.heap.size 3 #[.int .i64 (s.trace.length : Int)] := by
                have h := BoxN.new w400 3 #[.int .i64 (s.trace.length : Int)]
                simpa only [World.size_alloc] using h
              have a420 := alw w400 (.cells #[.int .i64 (s.trace.length : Int)] 3)
              have b421 := bstep b405 a420
              replace p407 := p407.below a420
              replace p408 := p408.below a420
              replace q402 := q402.below a420
              replace s410 := s410.below a420
              replace s411 := s411.below a420
              replace s412 := s412.below a420
              replace s414 := s414.below a420
              replace s413 := s413.below a420
              clear a420
              have z422 : Hid ((w400.alloc (.cells #[.int .i64 (s.trace.length : Int)] 3)).heap.size = w400.heap.size + 1) := Lib.hid (by simp only [World.size_alloc])
              have u431 := Lib.hid (And.intro u406.out (And.intro z415.out z422.out))
              obtain ⟨g423, c424, w425, h426, s427, d428, r429, r430⟩ := starts_append s411 (by have := u431.out; omega) (by have := u431.out; omega) (s.trace.length : Int) _ y419 (by have := HST.out; have := HK.out; omega) 1
              replace r429 := Lib.hid r429
              replace r430 := Lib.hid r430
              replace h426 := Lib.hid h426
              have u433 := Lib.hid (And.intro u431.out (And.intro r429.out r430.out))
              have b432 := b421.trans (d428.below (by have := u433.out; omega) b421.size)
              have p434 := p407.span d428 (by have := u433.out; omega)
              have p435 := p408.span d428 (by have := u433.out; omega)
              have p436 := q402.span d428 (by have := u433.out; omega)
              have p437 := y419.span d428 (by have := u433.out; omega)
              have s438 := s410.span d428 (by have := u433.out; omega)
              have s439 := s412.span d428 (by have := u433.out; omega)
              have s440 := s414.span d428 (by have := u433.out; omega)
              have s441 := s413.span d428 (by have := u433.out; omega)
              have z442 := Lib.hid d428.size
              clear b421 p407 p408 q402 y419 s410 s412 s414 s413 d428
              obtain ⟨w443, hs444, q445, sp446, z447⟩ := store_one (ty := 32) (cs' := #[.int .u8 (r.1.A : Int), .int .u8 (r.1.X : Int), .int .u8 (r.1.Y : Int), .int .u8 (r.1.S : Int), .int .u16 (r.1.PC : Int), .bool r.1.N, .bool r.1.V, .bool r.1.D, .bool r.1.I, .bool r.1.Z, .bool r.1.C, .slice a364 r.2.mem.length c365, .slice ta s.trace.length tc, .slice (some ⟨g423, 0, none⟩) (st.length + 1) c424, .slice pa s.cpus.length pc, .bool false]) p436 13 (.slice (some ⟨g423, 0, none⟩) (st.length + 1) c424) (by kernel_rfl) (by
                have hc := p436.cell 13 (.slice sa st.length sc) rfl
                have hf := p436.frozen 13
                simp [go_sem, hc, hf])
              replace z447 := Lib.hid z447
              replace hs444 := Lib.hid hs444
              have u449 := Lib.hid (And.intro u433.out (And.intro z442.out z447.out))
              have b448 := b432.trans (sp446.below (by have := u449.out; omega) b432.size)
              have p450 := p434.span sp446 (by have := u449.out; omega)
              have p451 := p435.span sp446 (by have := u449.out; omega)
              have s452 := s438.span sp446 (by have := u449.out; omega)
              have s453 := s439.span sp446 (by have := u449.out; omega)
              have s454 := s440.span sp446 (by have := u449.out; omega)
              have s455 := s441.span sp446 (by have := u449.out; omega)
              have s456 := s427.span sp446 (by have := u449.out; omega)
              have z457 := Lib.hid sp446.size
              clear b432 p434 p435 s438 s439 s440 s441 s427 sp446
              have ld458 : (Instr.loadAt 33 (.pointer (some ⟨P, 14, none⟩))).run Try.prog w443 = .ok (.slice pa s.cpus.length pc) w443 := by
                have hc := q445.cell 14 (.slice pa s.cpus.length pc) rfl
                simp [go_sem, hc]
              replace ld458 := Lib.hid ld458
              have ld459 : (Instr.loadAt 28 (.pointer (some ⟨wr.heap.size, 0, none⟩))).run Try.prog w443 = .ok (.agg #[.int .u8 (s.cpu.A : Int), .int .u8 (s.cpu.X : Int), .int .u8 (s.cpu.Y : Int), .int .u8 (s.cpu.S : Int), .int .u16 (s.cpu.PC : Int), .bool s.cpu.N, .bool s.cpu.V, .bool s.cpu.D, .bool s.cpu.I, .bool s.cpu.Z, .bool s.cpu.C]) w443 := load_part p451 0 #[.int .u8 (s.cpu.A : Int), .int .u8 (s.cpu.X : Int), .int .u8 (s.cpu.Y : Int), .int .u8 (s.cpu.S : Int), .int .u16 (s.cpu.PC : Int), .bool s.cpu.N, .bool s.cpu.V, .bool s.cpu.D, .bool s.cpu.I, .bool s.cpu.Z, .bool s.cpu.C] (by kernel_rfl) (by kernel_rfl) (by kernel_rfl)
              replace ld459 := Lib.hid ld459
              have y460 : BoxN (w443.alloc (.cells #[.int .u8 (s.cpu.A : Int), .int .u8 (s.cpu.X : Int), .int .u8 (s.cpu.Y : Int), .int .u8 (s.cpu.S : Int), .int .u16 (s.cpu.PC : Int), .bool s.cpu.N, .bool s.cpu.V, .bool s.cpu.D, .bool s.cpu.I, .bool s.cpu.Z, .bool s.cpu.C] 28)) w443.heap.size 28 #[.int .u8 (s.cpu.A : Int), .int .u8 (s.cpu.X : Int), .int .u8 (s.cpu.Y : Int), .int .u8 (s.cpu.S : Int), .int .u16 (s.cpu.PC : Int), .bool s.cpu.N, .bool s.cpu.V, .bool s.cpu.D, .bool s.cpu.I, .bool s.cpu.Z, .bool s.cpu.C] := by
                have h := BoxN.new w443 28 #[.int .u8 (s.cpu.A : Int), .int .u8 (s.cpu.X : Int), .int .u8 (s.cpu.Y : Int), .int .u8 (s.cpu.S : Int), .int .u16 (s.cpu.PC : Int), .bool s.cpu.N, .bool s.cpu.V, .bool s.cpu.D, .bool s.cpu.I, .bool s.cpu.Z, .bool s.cpu.C]
                simpa only [World.size_alloc] using h
              have a461 := alw w443 (.cells #[.int .u8 (s.cpu.A : Int), .int .u8 (s.cpu.X : Int), .int .u8 (s.cpu.Y : Int), .int .u8 (s.cpu.S : Int), .int .u16 (s.cpu.PC : Int), .bool s.cpu.N, .bool s.cpu.V, .bool s.cpu.D, .bool s.cpu.I, .bool s.cpu.Z, .bool s.cpu.C] 28)
              have b462 := bstep b448 a461
              replace p450 := p450.below a461
              replace p451 := p451.below a461
              replace q445 := q445.below a461
              replace s452 := s452.below a461
              replace s453 := s453.below a461
              replace s454 := s454.below a461
              replace s455 := s455.below a461
              replace s456 := s456.below a461
              clear a461
              have z463 : Hid ((w443.alloc (.cells #[.int .u8 (s.cpu.A : Int), .int .u8 (s.cpu.X : Int), .int .u8 (s.cpu.Y : Int), .int .u8 (s.cpu.S : Int), .int .u16 (s.cpu.PC : Int), .bool s.cpu.N, .bool s.cpu.V, .bool s.cpu.D, .bool s.cpu.I, .bool s.cpu.Z, .bool s.cpu.C] 28)).heap.size = w443.heap.size + 1) := Lib.hid (by simp only [World.size_alloc])
              have u472 := Lib.hid (And.intro u449.out (And.intro z457.out z463.out))
              obtain ⟨g464, c465, w466, h467, s468, d469, r470, r471⟩ := cpus_append s453 (by have := u472.out; omega) (by have := u472.out; omega) s.cpu _ y460 (by have := HU.out.cpus; have := HK.out; omega) 1
              replace r470 := Lib.hid r470
              replace r471 := Lib.hid r471
              replace h467 := Lib.hid h467
              have u474 := Lib.hid (And.intro u472.out (And.intro r470.out r471.out))
              have b473 := b462.trans (d469.below (by have := u474.out; omega) b462.size)
              have p475 := p450.span d469 (by have := u474.out; omega)
              have p476 := p451.span d469 (by have := u474.out; omega)
              have p477 := q445.span d469 (by have := u474.out; omega)
              have p478 := y460.span d469 (by have := u474.out; omega)
              have s479 := s452.span d469 (by have := u474.out; omega)
              have s480 := s454.span d469 (by have := u474.out; omega)
              have s481 := s455.span d469 (by have := u474.out; omega)
              have s482 := s456.span d469 (by have := u474.out; omega)
              have z483 := Lib.hid d469.size
              clear b462 p450 p451 q445 y460 s452 s454 s455 s456 d469
              obtain ⟨w484, hs485, q486, sp487, z488⟩ := store_one (ty := 33) (cs' := #[.int .u8 (r.1.A : Int), .int .u8 (r.1.X : Int), .int .u8 (r.1.Y : Int), .int .u8 (r.1.S : Int), .int .u16 (r.1.PC : Int), .bool r.1.N, .bool r.1.V, .bool r.1.D, .bool r.1.I, .bool r.1.Z, .bool r.1.C, .slice a364 r.2.mem.length c365, .slice ta s.trace.length tc, .slice (some ⟨g423, 0, none⟩) (st.length + 1) c424, .slice (some ⟨g464, 0, none⟩) (s.cpus.length + 1) c465, .bool false]) p477 14 (.slice (some ⟨g464, 0, none⟩) (s.cpus.length + 1) c465) (by kernel_rfl) (by
                have hc := p477.cell 14 (.slice pa s.cpus.length pc) rfl
                have hf := p477.frozen 14
                simp [go_sem, hc, hf])
              replace z488 := Lib.hid z488
              replace hs485 := Lib.hid hs485
              have u490 := Lib.hid (And.intro u474.out (And.intro z483.out z488.out))
              have b489 := b473.trans (sp487.below (by have := u490.out; omega) b473.size)
              have p491 := p475.span sp487 (by have := u490.out; omega)
              have p492 := p476.span sp487 (by have := u490.out; omega)
              have s493 := s479.span sp487 (by have := u490.out; omega)
              have s494 := s480.span sp487 (by have := u490.out; omega)
              have s495 := s481.span sp487 (by have := u490.out; omega)
              have s496 := s482.span sp487 (by have := u490.out; omega)
              have s497 := s468.span sp487 (by have := u490.out; omega)
              have z498 := Lib.hid sp487.size
              clear b473 p475 p476 s479 s480 s481 s482 s468 sp487
              have ld499 : (Instr.loadAt 31 (.pointer (some ⟨P, 12, none⟩))).run Try.prog w484 = .ok (.slice ta s.trace.length tc) w484 := by
                have hc := q486.cell 12 (.slice ta s.trace.length tc) rfl
                simp [go_sem, hc]
              replace ld499 := Lib.hid ld499
              have u508 := Lib.hid (And.intro u490.out z498.out)
              obtain ⟨g500, c501, w502, h503, s504, d505, r506, r507⟩ := trace_append s493 (by have := u508.out; omega) (by have := u508.out; omega) s494 HL0.out (by have := HU.out.many; have := HK.out; omega) (by have := HL8.out; omega)
              replace r506 := Lib.hid r506
              replace r507 := Lib.hid r507
              replace h503 := Lib.hid h503
              have u510 := Lib.hid (And.intro u508.out (And.intro r506.out r507.out))
              have b509 := b489.trans (d505.below (by have := u510.out; omega) b489.size)
              have p511 := p491.span d505 (by have := u510.out; omega)
              have p512 := p492.span d505 (by have := u510.out; omega)
              have p513 := q486.span d505 (by have := u510.out; omega)
              have s514 := s494.span d505 (by have := u510.out; omega)
              have s515 := s495.span d505 (by have := u510.out; omega)
              have s516 := s496.span d505 (by have := u510.out; omega)
              have s517 := s497.span d505 (by have := u510.out; omega)
              have z518 := Lib.hid d505.size
              clear b489 p491 p492 q486 s494 s495 s496 s497 d505
              obtain ⟨w519, hs520, q521, sp522, z523⟩ := store_one (ty := 31) (cs' := #[.int .u8 (r.1.A : Int), .int .u8 (r.1.X : Int), .int .u8 (r.1.Y : Int), .int .u8 (r.1.S : Int), .int .u16 (r.1.PC : Int), .bool r.1.N, .bool r.1.V, .bool r.1.D, .bool r.1.I, .bool r.1.Z, .bool r.1.C, .slice a364 r.2.mem.length c365, .slice (some ⟨g500, 0, none⟩) (s.trace.length + r.2.log.length) c501, .slice (some ⟨g423, 0, none⟩) (st.length + 1) c424, .slice (some ⟨g464, 0, none⟩) (s.cpus.length + 1) c465, .bool false]) p513 12 (.slice (some ⟨g500, 0, none⟩) (s.trace.length + r.2.log.length) c501) (by kernel_rfl) (by
                have hc := p513.cell 12 (.slice ta s.trace.length tc) rfl
                have hf := p513.frozen 12
                simp [go_sem, hc, hf])
              replace z523 := Lib.hid z523
              replace hs520 := Lib.hid hs520
              have u525 := Lib.hid (And.intro u510.out (And.intro z518.out z523.out))
              have b524 := b509.trans (sp522.below (by have := u525.out; omega) b509.size)
              have p526 := p511.span sp522 (by have := u525.out; omega)
              have p527 := p512.span sp522 (by have := u525.out; omega)
              have s528 := s514.span sp522 (by have := u525.out; omega)
              have s529 := s515.span sp522 (by have := u525.out; omega)
              have s530 := s516.span sp522 (by have := u525.out; omega)
              have s531 := s517.span sp522 (by have := u525.out; omega)
              have s532 := s504.span sp522 (by have := u525.out; omega)
              have z533 := Lib.hid sp522.size
              clear b509 p511 p512 s514 s515 s516 s517 s504 sp522
              clear p378 q386 s409 b405 s411 p436 b448 s453 p477 s493 p513
              replace p526 := Lib.hid p526
              replace p527 := Lib.hid p527
              replace q521 := Lib.hid q521
              replace s528 := Lib.hid s528
              replace s529 := Lib.hid s529
              replace s530 := Lib.hid s530
              replace s531 := Lib.hid s531
              replace s532 := Lib.hid s532
              replace b524 := Lib.hid b524
              go_wp2_with (first | (with_reducible refine wpList_store_fit hs385.out ?_ ?_; focus (exact ⟨rfl, rfl, _, _, rfl, rfl, rfl⟩)) | (with_reducible refine wpList_store_fit hs401.out ?_ ?_; focus (exact ⟨rfl, rfl, _, _, rfl, rfl, rfl⟩)) | (with_reducible refine wpList_load_fit ld416.out ?_ ?_; focus (exact ⟨rfl, _, rfl, rfl⟩)) | (with_reducible refine wpList_load_fit ld417.out ?_ ?_; focus (exact ⟨rfl, _, rfl, rfl⟩)) | (with_reducible refine wpList_load_fit ld418.out ?_ ?_; focus (exact ⟨rfl, _, rfl, rfl⟩)) | (at_builtin; refine wpList_append_run h426.out rfl rfl rfl rfl ?_) | (with_reducible refine wpList_store_fit hs444.out ?_ ?_; focus (exact ⟨rfl, rfl, _, _, rfl, rfl, rfl⟩)) | (with_reducible refine wpList_load_fit ld458.out ?_ ?_; focus (exact ⟨rfl, _, rfl, rfl⟩)) | (with_reducible refine wpList_load_fit ld459.out ?_ ?_; focus (exact ⟨rfl, _, rfl, rfl⟩)) | (at_builtin; refine wpList_append_run h467.out rfl rfl rfl rfl ?_) | (with_reducible refine wpList_store_fit hs485.out ?_ ?_; focus (exact ⟨rfl, rfl, _, _, rfl, rfl, rfl⟩)) | (with_reducible refine wpList_load_fit ld499.out ?_ ?_; focus (exact ⟨rfl, _, rfl, rfl⟩)) | (at_builtin; refine wpList_append_run h503.out rfl rfl rfl rfl ?_) | (with_reducible refine wpList_store_fit hs520.out ?_ ?_; focus (exact ⟨rfl, rfl, _, _, rfl, rfl, rfl⟩)))
              replace p526 := p526.out
              replace p527 := p527.out
              replace q521 := q521.out
              replace s528 := s528.out
              replace s529 := s529.out
              replace s530 := s530.out
              replace s531 := s531.out
              replace s532 := s532.out
              replace b524 := b524.out
              have u534 := Lib.hid (And.intro u525.out z533.out)
              go_roundw
              case rel =>
                refine ⟨k + 1, by go_num, by omega, Lib.hid ⟨s.on r, st ++ [(s.trace.length : Int)], _, _, _, _, _, _, _, _, _, _, _, _, lo368, hi369, g500, (g500 + 1), g423, (g423 + 1), g464, (g464 + 1), rfl, (List.length_append ..).symm, (List.length_append ..).symm, (List.length_append ..).symm, ?_, HUN.out, q521, p526, s529, s532, s530, s531, by have := u534.out; unfold Places; omega, b524⟩⟩
                rw [HSM.out]
                show _ = (s.starts ++ [s.trace.length]).map _
                rw [List.map_append]; rfl
              case measure => simp [intOf]; omega
          | true =>
            rw [hj] at HJ
            obtain ⟨r, hr⟩ : ∃ r, stepN s.cpu s.mem = r := ⟨_, rfl⟩
            have HSV := fun a cap W row => specStep_any s.cpu hcok.out a cap s.mem W row
            rw [hr] at HSV
            have HRJ : Hid (r = (s.cpu, ⟨s.mem, []⟩)) := Lib.hid (by rw [← hr]; exact stepN_jam hj)
            have hunit : unitN E k s = { s with jam := true } := by unfold unitN; rw [if_neg (by rw [ha1]; exact Bool.false_ne_true), if_neg hno, if_pos hj]
            have HEnd : Hid (S = { s with jam := true }) := Lib.hid (by rw [← HS.out]; exact HU.out.jams hunit _ (by omega))
            clear hr ha1 ha2 hno hj hunit
            cases a2 with
            | false =>
              clear hq hfi
              have c301 := pI.cell 15 (.bool false) rfl
              have ld302 : (Instr.loadAt 28 (.pointer (some ⟨P, 0, none⟩))).run Try.prog wr = .ok (.agg #[.int .u8 (s.cpu.A : Int), .int .u8 (s.cpu.X : Int), .int .u8 (s.cpu.Y : Int), .int .u8 (s.cpu.S : Int), .int .u16 (s.cpu.PC : Int), .bool s.cpu.N, .bool s.cpu.V, .bool s.cpu.D, .bool s.cpu.I, .bool s.cpu.Z, .bool s.cpu.C]) wr := load_part pI 0 #[.int .u8 (s.cpu.A : Int), .int .u8 (s.cpu.X : Int), .int .u8 (s.cpu.Y : Int), .int .u8 (s.cpu.S : Int), .int .u16 (s.cpu.PC : Int), .bool s.cpu.N, .bool s.cpu.V, .bool s.cpu.D, .bool s.cpu.I, .bool s.cpu.Z, .bool s.cpu.C] (by kernel_rfl) (by kernel_rfl) (by kernel_rfl)
              replace ld302 := Lib.hid ld302
              have y303 : BoxN (wr.alloc (.cells #[.int .u8 (s.cpu.A : Int), .int .u8 (s.cpu.X : Int), .int .u8 (s.cpu.Y : Int), .int .u8 (s.cpu.S : Int), .int .u16 (s.cpu.PC : Int), .bool s.cpu.N, .bool s.cpu.V, .bool s.cpu.D, .bool s.cpu.I, .bool s.cpu.Z, .bool s.cpu.C] 28)) wr.heap.size 28 #[.int .u8 (s.cpu.A : Int), .int .u8 (s.cpu.X : Int), .int .u8 (s.cpu.Y : Int), .int .u8 (s.cpu.S : Int), .int .u16 (s.cpu.PC : Int), .bool s.cpu.N, .bool s.cpu.V, .bool s.cpu.D, .bool s.cpu.I, .bool s.cpu.Z, .bool s.cpu.C] := by
                have h := BoxN.new wr 28 #[.int .u8 (s.cpu.A : Int), .int .u8 (s.cpu.X : Int), .int .u8 (s.cpu.Y : Int), .int .u8 (s.cpu.S : Int), .int .u16 (s.cpu.PC : Int), .bool s.cpu.N, .bool s.cpu.V, .bool s.cpu.D, .bool s.cpu.I, .bool s.cpu.Z, .bool s.cpu.C]
                simpa only [World.size_alloc] using h
              have a304 := alw wr (.cells #[.int .u8 (s.cpu.A : Int), .int .u8 (s.cpu.X : Int), .int .u8 (s.cpu.Y : Int), .int .u8 (s.cpu.S : Int), .int .u16 (s.cpu.PC : Int), .bool s.cpu.N, .bool s.cpu.V, .bool s.cpu.D, .bool s.cpu.I, .bool s.cpu.Z, .bool s.cpu.C] 28)
              have b305 := bstep bI a304
              replace pI := pI.below a304
              replace oI := oI.below a304
              replace mI := mI.below a304
              replace tI := tI.below a304
              replace sI := sI.below a304
              replace qI := qI.below a304
              have y306 : BoxN ((wr.alloc (.cells #[.int .u8 (s.cpu.A : Int), .int .u8 (s.cpu.X : Int), .int .u8 (s.cpu.Y : Int), .int .u8 (s.cpu.S : Int), .int .u16 (s.cpu.PC : Int), .bool s.cpu.N, .bool s.cpu.V, .bool s.cpu.D, .bool s.cpu.I, .bool s.cpu.Z, .bool s.cpu.C] 28)).alloc (.cells #[] 105)) (wr.heap.size + 1) 105 #[] := by
                have h := BoxN.new (wr.alloc (.cells #[.int .u8 (s.cpu.A : Int), .int .u8 (s.cpu.X : Int), .int .u8 (s.cpu.Y : Int), .int .u8 (s.cpu.S : Int), .int .u16 (s.cpu.PC : Int), .bool s.cpu.N, .bool s.cpu.V, .bool s.cpu.D, .bool s.cpu.I, .bool s.cpu.Z, .bool s.cpu.C] 28)) 105 #[]
                simpa only [World.size_alloc] using h
              have a307 := alw (wr.alloc (.cells #[.int .u8 (s.cpu.A : Int), .int .u8 (s.cpu.X : Int), .int .u8 (s.cpu.Y : Int), .int .u8 (s.cpu.S : Int), .int .u16 (s.cpu.PC : Int), .bool s.cpu.N, .bool s.cpu.V, .bool s.cpu.D, .bool s.cpu.I, .bool s.cpu.Z, .bool s.cpu.C] 28)) (.cells #[] 105)
              have b308 := bstep b305 a307
              replace y303 := y303.below a307
              replace pI := pI.below a307
              replace oI := oI.below a307
              replace mI := mI.below a307
              replace tI := tI.below a307
              replace sI := sI.below a307
              replace qI := qI.below a307
              clear a304 a307
              have z309 : Hid (((wr.alloc (.cells #[.int .u8 (s.cpu.A : Int), .int .u8 (s.cpu.X : Int), .int .u8 (s.cpu.Y : Int), .int .u8 (s.cpu.S : Int), .int .u16 (s.cpu.PC : Int), .bool s.cpu.N, .bool s.cpu.V, .bool s.cpu.D, .bool s.cpu.I, .bool s.cpu.Z, .bool s.cpu.C] 28)).alloc (.cells #[] 105)).heap.size = wr.heap.size + 2) := Lib.hid (by simp only [World.size_alloc])
              clear bI b305
              replace pI := Lib.hid pI
              replace oI := Lib.hid oI
              replace y303 := Lib.hid y303
              replace mI := Lib.hid mI
              replace tI := Lib.hid tI
              replace sI := Lib.hid sI
              replace qI := Lib.hid qI
              replace b308 := Lib.hid b308
              go_wp2_with ((with_reducible refine wpList_load_fit ld302.out ?_ ?_; focus (exact ⟨rfl, _, rfl, rfl⟩)))
              replace pI := pI.out
              replace oI := oI.out
              replace y303 := y303.out
              replace mI := mI.out
              replace tI := tI.out
              replace sI := sI.out
              replace qI := qI.out
              replace b308 := b308.out
              clear c301 ld302
              refine (HA1 _ b308).mono ?_
              rintro e w310 ⟨rfl, d311⟩
              replace d311 : Below ((wr.alloc (.cells #[.int .u8 (s.cpu.A : Int), .int .u8 (s.cpu.X : Int), .int .u8 (s.cpu.Y : Int), .int .u8 (s.cpu.S : Int), .int .u16 (s.cpu.PC : Int), .bool s.cpu.N, .bool s.cpu.V, .bool s.cpu.D, .bool s.cpu.I, .bool s.cpu.Z, .bool s.cpu.C] 28)).alloc (.cells #[] 105)).heap.size ((wr.alloc (.cells #[.int .u8 (s.cpu.A : Int), .int .u8 (s.cpu.X : Int), .int .u8 (s.cpu.Y : Int), .int .u8 (s.cpu.S : Int), .int .u16 (s.cpu.PC : Int), .bool s.cpu.N, .bool s.cpu.V, .bool s.cpu.D, .bool s.cpu.I, .bool s.cpu.Z, .bool s.cpu.C] 28)).alloc (.cells #[] 105)) w310 := d311
              have b312 := bstep b308 d311
              have p313 := pI.below d311
              have p314 := oI.below d311
              have p315 := y303.below d311
              have s316 := mI.below d311
              have s317 := tI.below d311
              have s318 := sI.below d311
              have s319 := qI.below d311
              have z320 := Lib.hid d311.size
              clear b308 pI oI y303 mI tI sI qI d311
              replace p313 := Lib.hid p313
              replace p314 := Lib.hid p314
              replace p315 := Lib.hid p315
              replace s316 := Lib.hid s316
              replace s317 := Lib.hid s317
              replace s318 := Lib.hid s318
              replace s319 := Lib.hid s319
              replace b312 := Lib.hid b312
              go_wp2_with fail
              replace p313 := p313.out
              replace p314 := p314.out
              replace p315 := p315.out
              replace s316 := s316.out
              replace s317 := s317.out
              replace s318 := s318.out
              replace s319 := s319.out
              replace b312 := b312.out
              refine (HA2 _ b312).mono ?_
              rintro e w321 ⟨rfl, d322⟩
              have b323 := bstep b312 d322
              have p324 := p313.below d322
              have p325 := p314.below d322
              have p326 := p315.below d322
              have s327 := s316.below d322
              have s328 := s317.below d322
              have s329 := s318.below d322
              have s330 := s319.below d322
              have z331 := Lib.hid d322.size
              clear b312 p313 p314 p315 s316 s317 s318 s319 d322
              have ld332 : (Instr.loadAt 30 (.pointer (some ⟨P, 11, none⟩))).run Try.prog w321 = .ok (.agg #[.slice ma s.mem.length mc]) w321 := load_part p324 11 #[.slice ma s.mem.length mc] (by kernel_rfl) (by kernel_rfl) (by kernel_rfl)
              replace ld332 := Lib.hid ld332
              have ld333 : (Instr.loadAt 24 (.pointer (some ⟨P, 4, none⟩))).run Try.prog w321 = .ok (.int .u16 (s.cpu.PC : Int)) w321 := by
                have hc := p324.cell 4 (.int .u16 (s.cpu.PC : Int)) rfl
                simp [go_sem, hc]
              replace ld333 := Lib.hid ld333
              replace p324 := Lib.hid p324
              replace p325 := Lib.hid p325
              replace p326 := Lib.hid p326
              replace s327 := Lib.hid s327
              replace s328 := Lib.hid s328
              replace s329 := Lib.hid s329
              replace s330 := Lib.hid s330
              replace b323 := Lib.hid b323
              go_wp2_with (first | (with_reducible refine wpList_load_fit ld332.out ?_ ?_; focus (exact ⟨rfl, _, rfl, rfl⟩)) | (with_reducible refine wpList_load_fit ld333.out ?_ ?_; focus (exact ⟨rfl, _, rfl, rfl⟩)))
              replace p324 := p324.out
              replace p325 := p325.out
              replace p326 := p326.out
              replace s327 := s327.out
              replace s328 := s328.out
              replace s329 := s329.out
              replace s330 := s330.out
              replace b323 := b323.out
              clear ld332 ld333
              refine (HJ _ _ _ s327.row).mono ?_
              rintro e w334 ⟨rfl, d335⟩
              have b336 := bstep b323 d335
              have p337 := p324.below d335
              have p338 := p325.below d335
              have p339 := p326.below d335
              have s340 := s327.below d335
              have s341 := s328.below d335
              have s342 := s329.below d335
              have s343 := s330.below d335
              have z344 := Lib.hid d335.size
              clear b323 p324 p325 p326 s327 s328 s329 s330 d335
              obtain ⟨w345, hs346, q347, sp348, z349⟩ := store_one (ty := 4) (cs' := #[.int .u8 (s.cpu.A : Int), .int .u8 (s.cpu.X : Int), .int .u8 (s.cpu.Y : Int), .int .u8 (s.cpu.S : Int), .int .u16 (s.cpu.PC : Int), .bool s.cpu.N, .bool s.cpu.V, .bool s.cpu.D, .bool s.cpu.I, .bool s.cpu.Z, .bool s.cpu.C, .slice ma s.mem.length mc, .slice ta s.trace.length tc, .slice sa st.length sc, .slice pa s.cpus.length pc, .bool true]) p337 15 (.bool true) (by kernel_rfl) (by
                have hc := p337.cell 15 (.bool false) rfl
                have hf := p337.frozen 15
                simp [go_sem, hc, hf])
              replace z349 := Lib.hid z349
              replace hs346 := Lib.hid hs346
              have u351 := Lib.hid (And.intro zI.out (And.intro z309.out (And.intro z320.out (And.intro z331.out (And.intro z344.out z349.out)))))
              have b350 := b336.trans (sp348.below (by have := u351.out; omega) b336.size)
              have p352 := p338.span sp348 (by have := u351.out; omega)
              have p353 := p339.span sp348 (by have := u351.out; omega)
              have s354 := s340.span sp348 (by have := u351.out; omega)
              have s355 := s341.span sp348 (by have := u351.out; omega)
              have s356 := s342.span sp348 (by have := u351.out; omega)
              have s357 := s343.span sp348 (by have := u351.out; omega)
              have z358 := Lib.hid sp348.size
              clear b336 p338 p339 s340 s341 s342 s343 sp348
              have ld359 : (Instr.loadAt 28 (.pointer (some ⟨P, 0, none⟩))).run Try.prog w345 = .ok (.agg #[.int .u8 (s.cpu.A : Int), .int .u8 (s.cpu.X : Int), .int .u8 (s.cpu.Y : Int), .int .u8 (s.cpu.S : Int), .int .u16 (s.cpu.PC : Int), .bool s.cpu.N, .bool s.cpu.V, .bool s.cpu.D, .bool s.cpu.I, .bool s.cpu.Z, .bool s.cpu.C]) w345 := load_part q347 0 #[.int .u8 (s.cpu.A : Int), .int .u8 (s.cpu.X : Int), .int .u8 (s.cpu.Y : Int), .int .u8 (s.cpu.S : Int), .int .u16 (s.cpu.PC : Int), .bool s.cpu.N, .bool s.cpu.V, .bool s.cpu.D, .bool s.cpu.I, .bool s.cpu.Z, .bool s.cpu.C] (by kernel_rfl) (by kernel_rfl) (by kernel_rfl)
              replace ld359 := Lib.hid ld359
              have ld360 : (Instr.loadAt 30 (.pointer (some ⟨P, 11, none⟩))).run Try.prog w345 = .ok (.agg #[.slice ma s.mem.length mc]) w345 := load_part q347 11 #[.slice ma s.mem.length mc] (by kernel_rfl) (by kernel_rfl) (by kernel_rfl)
              replace ld360 := Lib.hid ld360
              clear p337
              replace p352 := Lib.hid p352
              replace p353 := Lib.hid p353
              replace q347 := Lib.hid q347
              replace s354 := Lib.hid s354
              replace s355 := Lib.hid s355
              replace s356 := Lib.hid s356
              replace s357 := Lib.hid s357
              replace b350 := Lib.hid b350
              go_wp2_with (first | (with_reducible refine wpList_store_fit hs346.out ?_ ?_; focus (exact ⟨rfl, rfl, _, _, rfl, rfl, rfl⟩)) | (with_reducible refine wpList_load_fit ld359.out ?_ ?_; focus (exact ⟨rfl, _, rfl, rfl⟩)) | (with_reducible refine wpList_load_fit ld360.out ?_ ?_; focus (exact ⟨rfl, _, rfl, rfl⟩)))
              replace p352 := p352.out
              replace p353 := p353.out
              replace q347 := q347.out
              replace s354 := s354.out
              replace s355 := s355.out
              replace s356 := s356.out
              replace s357 := s357.out
              replace b350 := b350.out
              clear hs346 ld359 ld360
              refine (HSV _ _ _ s354.row).mono ?_
              rintro e w361 hst
              obtain ⟨a363, c364, a365, c366, lo367, hi368, lo369, hi370, rfl, s371, s372, r373, d362⟩ := hst.three
              clear hst
              have r373h := Lib.hid r373
              have b374 := bstep b350 d362
              have p375 := p352.below d362
              have p376 := p353.below d362
              have p377 := q347.below d362
              have s378 := s354.below d362
              have s379 := s355.below d362
              have s380 := s356.below d362
              have s381 := s357.below d362
              have z382 := Lib.hid d362.size
              clear b350 p352 p353 q347 s354 s355 s356 s357 r373 d362
              obtain ⟨w383, hs384, q385, sp386, z387⟩ := store_part (ty := 28) (cs' := #[.int .u8 (r.1.A : Int), .int .u8 (r.1.X : Int), .int .u8 (r.1.Y : Int), .int .u8 (r.1.S : Int), .int .u16 (r.1.PC : Int), .bool r.1.N, .bool r.1.V, .bool r.1.D, .bool r.1.I, .bool r.1.Z, .bool r.1.C, .slice ma s.mem.length mc, .slice ta s.trace.length tc, .slice sa st.length sc, .slice pa s.cpus.length pc, .bool true]) p377 0 #[.int .u8 (r.1.A : Int), .int .u8 (r.1.X : Int), .int .u8 (r.1.Y : Int), .int .u8 (r.1.S : Int), .int .u16 (r.1.PC : Int), .bool r.1.N, .bool r.1.V, .bool r.1.D, .bool r.1.I, .bool r.1.Z, .bool r.1.C] (by kernel_rfl) (Nat.le_of_ble_eq_true (by kernel_rfl)) (by kernel_rfl) (by kernel_rfl)
              replace z387 := Lib.hid z387
              replace hs384 := Lib.hid hs384
              have u389 := Lib.hid (And.intro u351.out (And.intro z358.out (And.intro r373h.out (And.intro z382.out z387.out))))
              have b388 := b374.trans (sp386.below (by have := u389.out; omega) b374.size)
              have p390 := p375.span sp386 (by have := u389.out; omega)
              have p391 := p376.span sp386 (by have := u389.out; omega)
              have s392 := s378.span sp386 (by have := u389.out; omega)
              have s393 := s379.span sp386 (by have := u389.out; omega)
              have s394 := s380.span sp386 (by have := u389.out; omega)
              have s395 := s381.span sp386 (by have := u389.out; omega)
              have s396 := s371.span sp386 (by have := u389.out; omega)
              have s397 := s372.span sp386 (by have := u389.out; omega)
              have z398 := Lib.hid sp386.size
              clear b374 p375 p376 s378 s379 s380 s381 s371 s372 sp386
              obtain ⟨w399, hs400, q401, sp402, z403⟩ := store_part (ty := 30) (cs' := #[.int .u8 (r.1.A : Int), .int .u8 (r.1.X : Int), .int .u8 (r.1.Y : Int), .int .u8 (r.1.S : Int), .int .u16 (r.1.PC : Int), .bool r.1.N, .bool r.1.V, .bool r.1.D, .bool r.1.I, .bool r.1.Z, .bool r.1.C, .slice a363 r.2.mem.length c364, .slice ta s.trace.length tc, .slice sa st.length sc, .slice pa s.cpus.length pc, .bool true]) q385 11 #[.slice a363 r.2.mem.length c364] (by kernel_rfl) (Nat.le_of_ble_eq_true (by kernel_rfl)) (by kernel_rfl) (by kernel_rfl)
              replace z403 := Lib.hid z403
              replace hs400 := Lib.hid hs400
              have u405 := Lib.hid (And.intro u389.out (And.intro z398.out z403.out))
              have b404 := b388.trans (sp402.below (by have := u405.out; omega) b388.size)
              have p406 := p390.span sp402 (by have := u405.out; omega)
              have p407 := p391.span sp402 (by have := u405.out; omega)
              have s408 := s392.span sp402 (by have := u405.out; omega)
              have s409 := s393.span sp402 (by have := u405.out; omega)
              have s410 := s394.span sp402 (by have := u405.out; omega)
              have s411 := s395.span sp402 (by have := u405.out; omega)
              have s412 := s396.span sp402 (by have := u405.out; omega)
              have s413 := s397.span sp402 (by have := u405.out; omega)
              have z414 := Lib.hid sp402.size
              clear b388 p390 p391 s392 s393 s394 s395 s396 s397 sp402
              have ld415 : (Instr.loadAt 4 (.pointer (some ⟨P, 15, none⟩))).run Try.prog w399 = .ok (.bool true) w399 := by
                have hc := q401.cell 15 (.bool true) rfl
                simp [go_sem, hc]
              replace ld415 := Lib.hid ld415
              obtain rfl := HRJ.out
              have ld416 : (Instr.loadAt 35 (.pointer (some ⟨P, 0, none⟩))).run Try.prog w399 = .ok (.agg #[.int .u8 (s.cpu.A : Int), .int .u8 (s.cpu.X : Int), .int .u8 (s.cpu.Y : Int), .int .u8 (s.cpu.S : Int), .int .u16 (s.cpu.PC : Int), .bool s.cpu.N, .bool s.cpu.V, .bool s.cpu.D, .bool s.cpu.I, .bool s.cpu.Z, .bool s.cpu.C, .slice a363 s.mem.length c364, .slice ta s.trace.length tc, .slice sa st.length sc, .slice pa s.cpus.length pc, .bool true]) w399 := load_part q401 0 #[.int .u8 (s.cpu.A : Int), .int .u8 (s.cpu.X : Int), .int .u8 (s.cpu.Y : Int), .int .u8 (s.cpu.S : Int), .int .u16 (s.cpu.PC : Int), .bool s.cpu.N, .bool s.cpu.V, .bool s.cpu.D, .bool s.cpu.I, .bool s.cpu.Z, .bool s.cpu.C, .slice a363 s.mem.length c364, .slice ta s.trace.length tc, .slice sa st.length sc, .slice pa s.cpus.length pc, .bool true] (by kernel_rfl) (by kernel_rfl) (by kernel_rfl)
              replace ld416 := Lib.hid ld416
              obtain ⟨w417, hs418, q419, sp420, z421⟩ := store_part (ty := 35) (cs' := #[.int .u8 (s.cpu.A : Int), .int .u8 (s.cpu.X : Int), .int .u8 (s.cpu.Y : Int), .int .u8 (s.cpu.S : Int), .int .u16 (s.cpu.PC : Int), .bool s.cpu.N, .bool s.cpu.V, .bool s.cpu.D, .bool s.cpu.I, .bool s.cpu.Z, .bool s.cpu.C, .slice a363 s.mem.length c364, .slice ta s.trace.length tc, .slice sa st.length sc, .slice pa s.cpus.length pc, .bool true]) p406 0 #[.int .u8 (s.cpu.A : Int), .int .u8 (s.cpu.X : Int), .int .u8 (s.cpu.Y : Int), .int .u8 (s.cpu.S : Int), .int .u16 (s.cpu.PC : Int), .bool s.cpu.N, .bool s.cpu.V, .bool s.cpu.D, .bool s.cpu.I, .bool s.cpu.Z, .bool s.cpu.C, .slice a363 s.mem.length c364, .slice ta s.trace.length tc, .slice sa st.length sc, .slice pa s.cpus.length pc, .bool true] (by kernel_rfl) (Nat.le_of_ble_eq_true (by kernel_rfl)) (by kernel_rfl) (by kernel_rfl)
              replace z421 := Lib.hid z421
              replace hs418 := Lib.hid hs418
              have u423 := Lib.hid (And.intro u405.out (And.intro z414.out z421.out))
              have b422 := b404.trans (sp420.below (by have := u423.out; omega) b404.size)
              have p424 := p407.span sp420 (by have := u423.out; omega)
              have p425 := q401.span sp420 (by have := u423.out; omega)
              have s426 := s409.span sp420 (by have := u423.out; omega)
              have s427 := s410.span sp420 (by have := u423.out; omega)
              have s428 := s411.span sp420 (by have := u423.out; omega)
              have s429 := s412.span sp420 (by have := u423.out; omega)
              have z430 := Lib.hid sp420.size
              clear b404 p407 q401 s409 s410 s411 s412 sp420
              clear p377 q385 s408 p406
              replace p424 := Lib.hid p424
              replace p425 := Lib.hid p425
              replace q419 := Lib.hid q419
              replace s426 := Lib.hid s426
              replace s427 := Lib.hid s427
              replace s428 := Lib.hid s428
              replace s429 := Lib.hid s429
              replace b422 := Lib.hid b422
              go_wp2_with (first | (with_reducible refine wpList_store_fit hs384.out ?_ ?_; focus (exact ⟨rfl, rfl, _, _, rfl, rfl, rfl⟩)) | (with_reducible refine wpList_store_fit hs400.out ?_ ?_; focus (exact ⟨rfl, rfl, _, _, rfl, rfl, rfl⟩)) | (with_reducible refine wpList_load_fit ld415.out ?_ ?_; focus (exact ⟨rfl, _, rfl, rfl⟩)) | (with_reducible refine wpList_load_fit ld416.out ?_ ?_; focus (exact ⟨rfl, _, rfl, rfl⟩)) | (with_reducible refine wpList_store_fit hs418.out ?_ ?_; focus (exact ⟨rfl, rfl, _, _, rfl, rfl, rfl⟩)))
              replace p424 := p424.out
              replace p425 := p425.out
              replace q419 := q419.out
              replace s426 := s426.out
              replace s427 := s427.out
              replace s428 := s428.out
              replace s429 := s429.out
              replace b422 := b422.out
              have hE := HEnd.out.symm
              have hT := HSM.out
              subst hE
              subst hT
              refine bodyPost_ret (v := .agg #[.int .u8 (s.cpu.A : Int), .int .u8 (s.cpu.X : Int), .int .u8 (s.cpu.Y : Int), .int .u8 (s.cpu.S : Int), .int .u16 (s.cpu.PC : Int), .bool s.cpu.N, .bool s.cpu.V, .bool s.cpu.D, .bool s.cpu.I, .bool s.cpu.Z, .bool s.cpu.C, .slice a363 s.mem.length c364, .slice ta s.trace.length tc, .slice sa (List.map (fun (n : Nat) => (n : Int)) s.starts).length sc, .slice pa s.cpus.length pc, .bool true]) (result_box Try.results21 q419 rfl (by kernel_rfl) (by kernel_rfl)) rfl ⟨.slice a363 s.mem.length c364, .slice ta s.trace.length tc, .slice sa (List.map (fun (n : Nat) => (n : Int)) s.starts).length sc, .slice pa s.cpus.length pc, rfl, ⟨lo367, hi368, l2, h2, l3, h3, l4, h4, ?_⟩, b422⟩
              have u431 := Lib.hid (And.intro u423.out z430.out)
              exact ⟨s429, s426, s427, s428, by have := u431.out; omega, by have := u431.out; omega⟩
            | true =>
              have hfi2 : s.cpu.I = true := by
                cases hx : fi with
                | true => rw [hfi, hx]
                | false => exact absurd ⟨rfl, hx⟩ hq
              have HFI := Lib.hid hfi2
              clear hq hfi hfi2
              have c301 := pI.cell 15 (.bool false) rfl
              have ld302 : (Instr.loadAt 28 (.pointer (some ⟨P, 0, none⟩))).run Try.prog wr = .ok (.agg #[.int .u8 (s.cpu.A : Int), .int .u8 (s.cpu.X : Int), .int .u8 (s.cpu.Y : Int), .int .u8 (s.cpu.S : Int), .int .u16 (s.cpu.PC : Int), .bool s.cpu.N, .bool s.cpu.V, .bool s.cpu.D, .bool s.cpu.I, .bool s.cpu.Z, .bool s.cpu.C]) wr := load_part pI 0 #[.int .u8 (s.cpu.A : Int), .int .u8 (s.cpu.X : Int), .int .u8 (s.cpu.Y : Int), .int .u8 (s.cpu.S : Int), .int .u16 (s.cpu.PC : Int), .bool s.cpu.N, .bool s.cpu.V, .bool s.cpu.D, .bool s.cpu.I, .bool s.cpu.Z, .bool s.cpu.C] (by kernel_rfl) (by kernel_rfl) (by kernel_rfl)
              replace ld302 := Lib.hid ld302
              have y303 : BoxN (wr.alloc (.cells #[.int .u8 (s.cpu.A : Int), .int .u8 (s.cpu.X : Int), .int .u8 (s.cpu.Y : Int), .int .u8 (s.cpu.S : Int), .int .u16 (s.cpu.PC : Int), .bool s.cpu.N, .bool s.cpu.V, .bool s.cpu.D, .bool s.cpu.I, .bool s.cpu.Z, .bool s.cpu.C] 28)) wr.heap.size 28 #[.int .u8 (s.cpu.A : Int), .int .u8 (s.cpu.X : Int), .int .u8 (s.cpu.Y : Int), .int .u8 (s.cpu.S : Int), .int .u16 (s.cpu.PC : Int), .bool s.cpu.N, .bool s.cpu.V, .bool s.cpu.D, .bool s.cpu.I, .bool s.cpu.Z, .bool s.cpu.C] := by
                have h := BoxN.new wr 28 #[.int .u8 (s.cpu.A : Int), .int .u8 (s.cpu.X : Int), .int .u8 (s.cpu.Y : Int), .int .u8 (s.cpu.S : Int), .int .u16 (s.cpu.PC : Int), .bool s.cpu.N, .bool s.cpu.V, .bool s.cpu.D, .bool s.cpu.I, .bool s.cpu.Z, .bool s.cpu.C]
                simpa only [World.size_alloc] using h
              have a304 := alw wr (.cells #[.int .u8 (s.cpu.A : Int), .int .u8 (s.cpu.X : Int), .int .u8 (s.cpu.Y : Int), .int .u8 (s.cpu.S : Int), .int .u16 (s.cpu.PC : Int), .bool s.cpu.N, .bool s.cpu.V, .bool s.cpu.D, .bool s.cpu.I, .bool s.cpu.Z, .bool s.cpu.C] 28)
              have b305 := bstep bI a304
              replace pI := pI.below a304
              replace oI := oI.below a304
              replace mI := mI.below a304
              replace tI := tI.below a304
              replace sI := sI.below a304
              replace qI := qI.below a304
              have y306 : BoxN ((wr.alloc (.cells #[.int .u8 (s.cpu.A : Int), .int .u8 (s.cpu.X : Int), .int .u8 (s.cpu.Y : Int), .int .u8 (s.cpu.S : Int), .int .u16 (s.cpu.PC : Int), .bool s.cpu.N, .bool s.cpu.V, .bool s.cpu.D, .bool s.cpu.I, .bool s.cpu.Z, .bool s.cpu.C] 28)).alloc (.cells #[] 105)) (wr.heap.size + 1) 105 #[] := by
                have h := BoxN.new (wr.alloc (.cells #[.int .u8 (s.cpu.A : Int), .int .u8 (s.cpu.X : Int), .int .u8 (s.cpu.Y : Int), .int .u8 (s.cpu.S : Int), .int .u16 (s.cpu.PC : Int), .bool s.cpu.N, .bool s.cpu.V, .bool s.cpu.D, .bool s.cpu.I, .bool s.cpu.Z, .bool s.cpu.C] 28)) 105 #[]
                simpa only [World.size_alloc] using h
              have a307 := alw (wr.alloc (.cells #[.int .u8 (s.cpu.A : Int), .int .u8 (s.cpu.X : Int), .int .u8 (s.cpu.Y : Int), .int .u8 (s.cpu.S : Int), .int .u16 (s.cpu.PC : Int), .bool s.cpu.N, .bool s.cpu.V, .bool s.cpu.D, .bool s.cpu.I, .bool s.cpu.Z, .bool s.cpu.C] 28)) (.cells #[] 105)
              have b308 := bstep b305 a307
              replace y303 := y303.below a307
              replace pI := pI.below a307
              replace oI := oI.below a307
              replace mI := mI.below a307
              replace tI := tI.below a307
              replace sI := sI.below a307
              replace qI := qI.below a307
              clear a304 a307
              have z309 : Hid (((wr.alloc (.cells #[.int .u8 (s.cpu.A : Int), .int .u8 (s.cpu.X : Int), .int .u8 (s.cpu.Y : Int), .int .u8 (s.cpu.S : Int), .int .u16 (s.cpu.PC : Int), .bool s.cpu.N, .bool s.cpu.V, .bool s.cpu.D, .bool s.cpu.I, .bool s.cpu.Z, .bool s.cpu.C] 28)).alloc (.cells #[] 105)).heap.size = wr.heap.size + 2) := Lib.hid (by simp only [World.size_alloc])
              clear bI b305
              replace pI := Lib.hid pI
              replace oI := Lib.hid oI
              replace y303 := Lib.hid y303
              replace mI := Lib.hid mI
              replace tI := Lib.hid tI
              replace sI := Lib.hid sI
              replace qI := Lib.hid qI
              replace b308 := Lib.hid b308
              go_wp2_with ((with_reducible refine wpList_load_fit ld302.out ?_ ?_; focus (exact ⟨rfl, _, rfl, rfl⟩)))
              replace pI := pI.out
              replace oI := oI.out
              replace y303 := y303.out
              replace mI := mI.out
              replace tI := tI.out
              replace sI := sI.out
              replace qI := qI.out
              replace b308 := b308.out
              clear c301 ld302
              refine (HA1 _ b308).mono ?_
              rintro e w310 ⟨rfl, d311⟩
              replace d311 : Below ((wr.alloc (.cells #[.int .u8 (s.cpu.A : Int), .int .u8 (s.cpu.X : Int), .int .u8 (s.cpu.Y : Int), .int .u8 (s.cpu.S : Int), .int .u16 (s.cpu.PC : Int), .bool s.cpu.N, .bool s.cpu.V, .bool s.cpu.D, .bool s.cpu.I, .bool s.cpu.Z, .bool s.cpu.C] 28)).alloc (.cells #[] 105)).heap.size ((wr.alloc (.cells #[.int .u8 (s.cpu.A : Int), .int .u8 (s.cpu.X : Int), .int .u8 (s.cpu.Y : Int), .int .u8 (s.cpu.S : Int), .int .u16 (s.cpu.PC : Int), .bool s.cpu.N, .bool s.cpu.V, .bool s.cpu.D, .bool s.cpu.I, .bool s.cpu.Z, .bool s.cpu.C] 28)).alloc (.cells #[] 105)) w310 := d311
              have b312 := bstep b308 d311
              have p313 := pI.below d311
              have p314 := oI.below d311
              have p315 := y303.below d311
              have s316 := mI.below d311
              have s317 := tI.below d311
              have s318 := sI.below d311
              have s319 := qI.below d311
              have z320 := Lib.hid d311.size
              clear b308 pI oI y303 mI tI sI qI d311
              replace p313 := Lib.hid p313
              replace p314 := Lib.hid p314
              replace p315 := Lib.hid p315
              replace s316 := Lib.hid s316
              replace s317 := Lib.hid s317
              replace s318 := Lib.hid s318
              replace s319 := Lib.hid s319
              replace b312 := Lib.hid b312
              go_wp2_with fail
              replace p313 := p313.out
              replace p314 := p314.out
              replace p315 := p315.out
              replace s316 := s316.out
              replace s317 := s317.out
              replace s318 := s318.out
              replace s319 := s319.out
              replace b312 := b312.out
              refine (HA2 _ b312).mono ?_
              rintro e w321 ⟨rfl, d322⟩
              have b323 := bstep b312 d322
              have p324 := p313.below d322
              have p325 := p314.below d322
              have p326 := p315.below d322
              have s327 := s316.below d322
              have s328 := s317.below d322
              have s329 := s318.below d322
              have s330 := s319.below d322
              have z331 := Lib.hid d322.size
              clear b312 p313 p314 p315 s316 s317 s318 s319 d322
              have c332 := p324.cell 8 (.bool s.cpu.I) rfl
              rw [HFI.out] at c332
              have ld333 : (Instr.loadAt 30 (.pointer (some ⟨P, 11, none⟩))).run Try.prog w321 = .ok (.agg #[.slice ma s.mem.length mc]) w321 := load_part p324 11 #[.slice ma s.mem.length mc] (by kernel_rfl) (by kernel_rfl) (by kernel_rfl)
              replace ld333 := Lib.hid ld333
              have ld334 : (Instr.loadAt 24 (.pointer (some ⟨P, 4, none⟩))).run Try.prog w321 = .ok (.int .u16 (s.cpu.PC : Int)) w321 := by
                have hc := p324.cell 4 (.int .u16 (s.cpu.PC : Int)) rfl
                simp [go_sem, hc]
              replace ld334 := Lib.hid ld334
              replace p324 := Lib.hid p324
              replace p325 := Lib.hid p325
              replace p326 := Lib.hid p326
              replace s327 := Lib.hid s327
              replace s328 := Lib.hid s328
              replace s329 := Lib.hid s329
              replace s330 := Lib.hid s330
              replace b323 := Lib.hid b323
              go_wp2_with (first | (with_reducible refine wpList_load_fit ld333.out ?_ ?_; focus (exact ⟨rfl, _, rfl, rfl⟩)) | (with_reducible refine wpList_load_fit ld334.out ?_ ?_; focus (exact ⟨rfl, _, rfl, rfl⟩)))
              replace p324 := p324.out
              replace p325 := p325.out
              replace p326 := p326.out
              replace s327 := s327.out
              replace s328 := s328.out
              replace s329 := s329.out
              replace s330 := s330.out
              replace b323 := b323.out
              clear c332 ld333 ld334
              refine (HJ _ _ _ s327.row).mono ?_
              rintro e w335 ⟨rfl, d336⟩
              have b337 := bstep b323 d336
              have p338 := p324.below d336
              have p339 := p325.below d336
              have p340 := p326.below d336
              have s341 := s327.below d336
              have s342 := s328.below d336
              have s343 := s329.below d336
              have s344 := s330.below d336
              have z345 := Lib.hid d336.size
              clear b323 p324 p325 p326 s327 s328 s329 s330 d336
              obtain ⟨w346, hs347, q348, sp349, z350⟩ := store_one (ty := 4) (cs' := #[.int .u8 (s.cpu.A : Int), .int .u8 (s.cpu.X : Int), .int .u8 (s.cpu.Y : Int), .int .u8 (s.cpu.S : Int), .int .u16 (s.cpu.PC : Int), .bool s.cpu.N, .bool s.cpu.V, .bool s.cpu.D, .bool s.cpu.I, .bool s.cpu.Z, .bool s.cpu.C, .slice ma s.mem.length mc, .slice ta s.trace.length tc, .slice sa st.length sc, .slice pa s.cpus.length pc, .bool true]) p338 15 (.bool true) (by kernel_rfl) (by
                have hc := p338.cell 15 (.bool false) rfl
                have hf := p338.frozen 15
                simp [go_sem, hc, hf])
              replace z350 := Lib.hid z350
              replace hs347 := Lib.hid hs347
              have u352 := Lib.hid (And.intro zI.out (And.intro z309.out (And.intro z320.out (And.intro z331.out (And.intro z345.out z350.out)))))
              have b351 := b337.trans (sp349.below (by have := u352.out; omega) b337.size)
              have p353 := p339.span sp349 (by have := u352.out; omega)
              have p354 := p340.span sp349 (by have := u352.out; omega)
              have s355 := s341.span sp349 (by have := u352.out; omega)
              have s356 := s342.span sp349 (by have := u352.out; omega)
              have s357 := s343.span sp349 (by have := u352.out; omega)
              have s358 := s344.span sp349 (by have := u352.out; omega)
              have z359 := Lib.hid sp349.size
              clear b337 p339 p340 s341 s342 s343 s344 sp349
              have ld360 : (Instr.loadAt 28 (.pointer (some ⟨P, 0, none⟩))).run Try.prog w346 = .ok (.agg #[.int .u8 (s.cpu.A : Int), .int .u8 (s.cpu.X : Int), .int .u8 (s.cpu.Y : Int), .int .u8 (s.cpu.S : Int), .int .u16 (s.cpu.PC : Int), .bool s.cpu.N, .bool s.cpu.V, .bool s.cpu.D, .bool s.cpu.I, .bool s.cpu.Z, .bool s.cpu.C]) w346 := load_part q348 0 #[.int .u8 (s.cpu.A : Int), .int .u8 (s.cpu.X : Int), .int .u8 (s.cpu.Y : Int), .int .u8 (s.cpu.S : Int), .int .u16 (s.cpu.PC : Int), .bool s.cpu.N, .bool s.cpu.V, .bool s.cpu.D, .bool s.cpu.I, .bool s.cpu.Z, .bool s.cpu.C] (by kernel_rfl) (by kernel_rfl) (by kernel_rfl)
              replace ld360 := Lib.hid ld360
              have ld361 : (Instr.loadAt 30 (.pointer (some ⟨P, 11, none⟩))).run Try.prog w346 = .ok (.agg #[.slice ma s.mem.length mc]) w346 := load_part q348 11 #[.slice ma s.mem.length mc] (by kernel_rfl) (by kernel_rfl) (by kernel_rfl)
              replace ld361 := Lib.hid ld361
              clear p338
              replace p353 := Lib.hid p353
              replace p354 := Lib.hid p354
              replace q348 := Lib.hid q348
              replace s355 := Lib.hid s355
              replace s356 := Lib.hid s356
              replace s357 := Lib.hid s357
              replace s358 := Lib.hid s358
              replace b351 := Lib.hid b351
              go_wp2_with (first | (with_reducible refine wpList_store_fit hs347.out ?_ ?_; focus (exact ⟨rfl, rfl, _, _, rfl, rfl, rfl⟩)) | (with_reducible refine wpList_load_fit ld360.out ?_ ?_; focus (exact ⟨rfl, _, rfl, rfl⟩)) | (with_reducible refine wpList_load_fit ld361.out ?_ ?_; focus (exact ⟨rfl, _, rfl, rfl⟩)))
              replace p353 := p353.out
              replace p354 := p354.out
              replace q348 := q348.out
              replace s355 := s355.out
              replace s356 := s356.out
              replace s357 := s357.out
              replace s358 := s358.out
              replace b351 := b351.out
              clear hs347 ld360 ld361
              refine (HSV _ _ _ s355.row).mono ?_
              rintro e w362 hst
              obtain ⟨a364, c365, a366, c367, lo368, hi369, lo370, hi371, rfl, s372, s373, r374, d363⟩ := hst.three
              clear hst
              have r374h := Lib.hid r374
              have b375 := bstep b351 d363
              have p376 := p353.below d363
              have p377 := p354.below d363
              have p378 := q348.below d363
              have s379 := s355.below d363
              have s380 := s356.below d363
              have s381 := s357.below d363
              have s382 := s358.below d363
              have z383 := Lib.hid d363.size
              clear b351 p353 p354 q348 s355 s356 s357 s358 r374 d363
              obtain ⟨w384, hs385, q386, sp387, z388⟩ := store_part (ty := 28) (cs' := #[.int .u8 (r.1.A : Int), .int .u8 (r.1.X : Int), .int .u8 (r.1.Y : Int), .int .u8 (r.1.S : Int), .int .u16 (r.1.PC : Int), .bool r.1.N, .bool r.1.V, .bool r.1.D, .bool r.1.I, .bool r.1.Z, .bool r.1.C, .slice ma s.mem.length mc, .slice ta s.trace.length tc, .slice sa st.length sc, .slice pa s.cpus.length pc, .bool true]) p378 0 #[.int .u8 (r.1.A : Int), .int .u8 (r.1.X : Int), .int .u8 (r.1.Y : Int), .int .u8 (r.1.S : Int), .int .u16 (r.1.PC : Int), .bool r.1.N, .bool r.1.V, .bool r.1.D, .bool r.1.I, .bool r.1.Z, .bool r.1.C] (by kernel_rfl) (Nat.le_of_ble_eq_true (by kernel_rfl)) (by kernel_rfl) (by kernel_rfl)
              replace z388 := Lib.hid z388
              replace hs385 := Lib.hid hs385
              have u390 := Lib.hid (And.intro u352.out (And.intro z359.out (And.intro r374h.out (And.intro z383.out z388.out))))
              have b389 := b375.trans (sp387.below (by have := u390.out; omega) b375.size)
              have p391 := p376.span sp387 (by have := u390.out; omega)
              have p392 := p377.span sp387 (by have := u390.out; omega)
              have s393 := s379.span sp387 (by have := u390.out; omega)
              have s394 := s380.span sp387 (by have := u390.out; omega)
              have s395 := s381.span sp387 (by have := u390.out; omega)
              have s396 := s382.span sp387 (by have := u390.out; omega)
              have s397 := s372.span sp387 (by have := u390.out; omega)
              have s398 := s373.span sp387 (by have := u390.out; omega)
              have z399 := Lib.hid sp387.size
              clear b375 p376 p377 s379 s380 s381 s382 s372 s373 sp387
              obtain ⟨w400, hs401, q402, sp403, z404⟩ := store_part (ty := 30) (cs' := #[.int .u8 (r.1.A : Int), .int .u8 (r.1.X : Int), .int .u8 (r.1.Y : Int), .int .u8 (r.1.S : Int), .int .u16 (r.1.PC : Int), .bool r.1.N, .bool r.1.V, .bool r.1.D, .bool r.1.I, .bool r.1.Z, .bool r.1.C, .slice a364 r.2.mem.length c365, .slice ta s.trace.length tc, .slice sa st.length sc, .slice pa s.cpus.length pc, .bool true]) q386 11 #[.slice a364 r.2.mem.length c365] (by kernel_rfl) (Nat.le_of_ble_eq_true (by kernel_rfl)) (by kernel_rfl) (by kernel_rfl)
              replace z404 := Lib.hid z404
              replace hs401 := Lib.hid hs401
              have u406 := Lib.hid (And.intro u390.out (And.intro z399.out z404.out))
              have b405 := b389.trans (sp403.below (by have := u406.out; omega) b389.size)
              have p407 := p391.span sp403 (by have := u406.out; omega)
              have p408 := p392.span sp403 (by have := u406.out; omega)
              have s409 := s393.span sp403 (by have := u406.out; omega)
              have s410 := s394.span sp403 (by have := u406.out; omega)
              have s411 := s395.span sp403 (by have := u406.out; omega)
              have s412 := s396.span sp403 (by have := u406.out; omega)
              have s413 := s397.span sp403 (by have := u406.out; omega)
              have s414 := s398.span sp403 (by have := u406.out; omega)
              have z415 := Lib.hid sp403.size
              clear b389 p391 p392 s393 s394 s395 s396 s397 s398 sp403
              have ld416 : (Instr.loadAt 4 (.pointer (some ⟨P, 15, none⟩))).run Try.prog w400 = .ok (.bool true) w400 := by
                have hc := q402.cell 15 (.bool true) rfl
                simp [go_sem, hc]
              replace ld416 := Lib.hid ld416
              obtain rfl := HRJ.out
              have ld417 : (Instr.loadAt 35 (.pointer (some ⟨P, 0, none⟩))).run Try.prog w400 = .ok (.agg #[.int .u8 (s.cpu.A : Int), .int .u8 (s.cpu.X : Int), .int .u8 (s.cpu.Y : Int), .int .u8 (s.cpu.S : Int), .int .u16 (s.cpu.PC : Int), .bool s.cpu.N, .bool s.cpu.V, .bool s.cpu.D, .bool s.cpu.I, .bool s.cpu.Z, .bool s.cpu.C, .slice a364 s.mem.length c365, .slice ta s.trace.length tc, .slice sa st.length sc, .slice pa s.cpus.length pc, .bool true]) w400 := load_part q402 0 #[.int .u8 (s.cpu.A : Int), .int .u8 (s.cpu.X : Int), .int .u8 (s.cpu.Y : Int), .int .u8 (s.cpu.S : Int), .int .u16 (s.cpu.PC : Int), .bool s.cpu.N, .bool s.cpu.V, .bool s.cpu.D, .bool s.cpu.I, .bool s.cpu.Z, .bool s.cpu.C, .slice a364 s.mem.length c365, .slice ta s.trace.length tc, .slice sa st.length sc, .slice pa s.cpus.length pc, .bool true] (by kernel_rfl) (by kernel_rfl) (by kernel_rfl)
              replace ld417 := Lib.hid ld417
              obtain ⟨w418, hs419, q420, sp421, z422⟩ := store_part (ty := 35) (cs' := #[.int .u8 (s.cpu.A : Int), .int .u8 (s.cpu.X : Int), .int .u8 (s.cpu.Y : Int), .int .u8 (s.cpu.S : Int), .int .u16 (s.cpu.PC : Int), .bool s.cpu.N, .bool s.cpu.V, .bool s.cpu.D, .bool s.cpu.I, .bool s.cpu.Z, .bool s.cpu.C, .slice a364 s.mem.length c365, .slice ta s.trace.length tc, .slice sa st.length sc, .slice pa s.cpus.length pc, .bool true]) p407 0 #[.int .u8 (s.cpu.A : Int), .int .u8 (s.cpu.X : Int), .int .u8 (s.cpu.Y : Int), .int .u8 (s.cpu.S : Int), .int .u16 (s.cpu.PC : Int), .bool s.cpu.N, .bool s.cpu.V, .bool s.cpu.D, .bool s.cpu.I, .bool s.cpu.Z, .bool s.cpu.C, .slice a364 s.mem.length c365, .slice ta s.trace.length tc, .slice sa st.length sc, .slice pa s.cpus.length pc, .bool true] (by kernel_rfl) (Nat.le_of_ble_eq_true (by kernel_rfl)) (by kernel_rfl) (by kernel_rfl)
              replace z422 := Lib.hid z422
              replace hs419 := Lib.hid hs419
              have u424 := Lib.hid (And.intro u406.out (And.intro z415.out z422.out))
              have b423 := b405.trans (sp421.below (by have := u424.out; omega) b405.size)
              have p425 := p408.span sp421 (by have := u424.out; omega)
              have p426 := q402.span sp421 (by have := u424.out; omega)
              have s427 := s410.span sp421 (by have := u424.out; omega)
              have s428 := s411.span sp421 (by have := u424.out; omega)
              have s429 := s412.span sp421 (by have := u424.out; omega)
              have s430 := s413.span sp421 (by have := u424.out; omega)
              have z431 := Lib.hid sp421.size
              clear b405 p408 q402 s410 s411 s412 s413 sp421
              clear p378 q386 s409 p407
              replace p425 := Lib.hid p425
              replace p426 := Lib.hid p426
              replace q420 := Lib.hid q420
              replace s427 := Lib.hid s427
              replace s428 := Lib.hid s428
              replace s429 := Lib.hid s429
              replace s430 := Lib.hid s430
              replace b423 := Lib.hid b423
              go_wp2_with (first | (with_reducible refine wpList_store_fit hs385.out ?_ ?_; focus (exact ⟨rfl, rfl, _, _, rfl, rfl, rfl⟩)) | (with_reducible refine wpList_store_fit hs401.out ?_ ?_; focus (exact ⟨rfl, rfl, _, _, rfl, rfl, rfl⟩)) | (with_reducible refine wpList_load_fit ld416.out ?_ ?_; focus (exact ⟨rfl, _, rfl, rfl⟩)) | (with_reducible refine wpList_load_fit ld417.out ?_ ?_; focus (exact ⟨rfl, _, rfl, rfl⟩)) | (with_reducible refine wpList_store_fit hs419.out ?_ ?_; focus (exact ⟨rfl, rfl, _, _, rfl, rfl, rfl⟩)))
              replace p425 := p425.out
              replace p426 := p426.out
              replace q420 := q420.out
              replace s427 := s427.out
              replace s428 := s428.out
              replace s429 := s429.out
              replace s430 := s430.out
              replace b423 := b423.out
              have hE := HEnd.out.symm
              have hT := HSM.out
              subst hE
              subst hT
              refine bodyPost_ret (v := .agg #[.int .u8 (s.cpu.A : Int), .int .u8 (s.cpu.X : Int), .int .u8 (s.cpu.Y : Int), .int .u8 (s.cpu.S : Int), .int .u16 (s.cpu.PC : Int), .bool s.cpu.N, .bool s.cpu.V, .bool s.cpu.D, .bool s.cpu.I, .bool s.cpu.Z, .bool s.cpu.C, .slice a364 s.mem.length c365, .slice ta s.trace.length tc, .slice sa (List.map (fun (n : Nat) => (n : Int)) s.starts).length sc, .slice pa s.cpus.length pc, .bool true]) (result_box Try.results21 q420 rfl (by kernel_rfl) (by kernel_rfl)) rfl ⟨.slice a364 s.mem.length c365, .slice ta s.trace.length tc, .slice sa (List.map (fun (n : Nat) => (n : Int)) s.starts).length sc, .slice pa s.cpus.length pc, rfl, ⟨lo368, hi369, l2, h2, l3, h3, l4, h4, ?_⟩, b423⟩
              have u432 := Lib.hid (And.intro u424.out z431.out)
              exact ⟨s430, s427, s428, s429, by have := u432.out; omega, by have := u432.out; omega⟩
    · have HEnd : Hid (S = s) := Lib.hid (by rw [← HS.out, HU.out.is]; unfold runN; congr 1; omega)
      have hjam := HU.out.jam
      have c301 := pI.cell 15 (.bool false) rfl
      have hjam := Lib.hid hjam
      have ld302 : (Instr.loadAt 35 (.pointer (some ⟨P, 0, none⟩))).run Try.prog wr = .ok (.agg #[.int .u8 (s.cpu.A : Int), .int .u8 (s.cpu.X : Int), .int .u8 (s.cpu.Y : Int), .int .u8 (s.cpu.S : Int), .int .u16 (s.cpu.PC : Int), .bool s.cpu.N, .bool s.cpu.V, .bool s.cpu.D, .bool s.cpu.I, .bool s.cpu.Z, .bool s.cpu.C, .slice ma s.mem.length mc, .slice ta s.trace.length tc, .slice sa st.length sc, .slice pa s.cpus.length pc, .bool false]) wr := load_part pI 0 #[.int .u8 (s.cpu.A : Int), .int .u8 (s.cpu.X : Int), .int .u8 (s.cpu.Y : Int), .int .u8 (s.cpu.S : Int), .int .u16 (s.cpu.PC : Int), .bool s.cpu.N, .bool s.cpu.V, .bool s.cpu.D, .bool s.cpu.I, .bool s.cpu.Z, .bool s.cpu.C, .slice ma s.mem.length mc, .slice ta s.trace.length tc, .slice sa st.length sc, .slice pa s.cpus.length pc, .bool false] (by kernel_rfl) (by kernel_rfl) (by kernel_rfl)
      replace ld302 := Lib.hid ld302
      obtain ⟨w303, hs304, q305, sp306, z307⟩ := store_part (ty := 35) (cs' := #[.int .u8 (s.cpu.A : Int), .int .u8 (s.cpu.X : Int), .int .u8 (s.cpu.Y : Int), .int .u8 (s.cpu.S : Int), .int .u16 (s.cpu.PC : Int), .bool s.cpu.N, .bool s.cpu.V, .bool s.cpu.D, .bool s.cpu.I, .bool s.cpu.Z, .bool s.cpu.C, .slice ma s.mem.length mc, .slice ta s.trace.length tc, .slice sa st.length sc, .slice pa s.cpus.length pc, .bool false]) oI 0 #[.int .u8 (s.cpu.A : Int), .int .u8 (s.cpu.X : Int), .int .u8 (s.cpu.Y : Int), .int .u8 (s.cpu.S : Int), .int .u16 (s.cpu.PC : Int), .bool s.cpu.N, .bool s.cpu.V, .bool s.cpu.D, .bool s.cpu.I, .bool s.cpu.Z, .bool s.cpu.C, .slice ma s.mem.length mc, .slice ta s.trace.length tc, .slice sa st.length sc, .slice pa s.cpus.length pc, .bool false] (by kernel_rfl) (Nat.le_of_ble_eq_true (by kernel_rfl)) (by kernel_rfl) (by kernel_rfl)
      replace z307 := Lib.hid z307
      replace hs304 := Lib.hid hs304
      have u309 := Lib.hid (And.intro zI.out z307.out)
      have b308 := bI.trans (sp306.below (by have := u309.out; omega) bI.size)
      have p310 := pI.span sp306 (by have := u309.out; omega)
      have s311 := mI.span sp306 (by have := u309.out; omega)
      have s312 := tI.span sp306 (by have := u309.out; omega)
      have s313 := sI.span sp306 (by have := u309.out; omega)
      have s314 := qI.span sp306 (by have := u309.out; omega)
      have z315 := Lib.hid sp306.size
      clear bI pI mI tI sI qI sp306
      clear oI
      replace p310 := Lib.hid p310
      replace q305 := Lib.hid q305
      replace s311 := Lib.hid s311
      replace s312 := Lib.hid s312
      replace s313 := Lib.hid s313
      replace s314 := Lib.hid s314
      replace b308 := Lib.hid b308
      go_wp2_with (first | (with_reducible refine wpList_load_fit ld302.out ?_ ?_; focus (exact ⟨rfl, _, rfl, rfl⟩)) | (with_reducible refine wpList_store_fit hs304.out ?_ ?_; focus (exact ⟨rfl, rfl, _, _, rfl, rfl, rfl⟩)))
      replace p310 := p310.out
      replace q305 := q305.out
      replace s311 := s311.out
      replace s312 := s312.out
      replace s313 := s313.out
      replace s314 := s314.out
      replace b308 := b308.out
      have hE := HEnd.out.symm
      have hT := HSM.out
      subst hE
      subst hT
      refine bodyPost_ret (v := .agg #[.int .u8 (s.cpu.A : Int), .int .u8 (s.cpu.X : Int), .int .u8 (s.cpu.Y : Int), .int .u8 (s.cpu.S : Int), .int .u16 (s.cpu.PC : Int), .bool s.cpu.N, .bool s.cpu.V, .bool s.cpu.D, .bool s.cpu.I, .bool s.cpu.Z, .bool s.cpu.C, .slice ma s.mem.length mc, .slice ta s.trace.length tc, .slice sa (List.map (fun (n : Nat) => (n : Int)) s.starts).length sc, .slice pa s.cpus.length pc, .bool false]) (result_box Try.results21 q305 rfl (by kernel_rfl) (by kernel_rfl)) rfl ⟨.slice ma s.mem.length mc, .slice ta s.trace.length tc, .slice sa (List.map (fun (n : Nat) => (n : Int)) s.starts).length sc, .slice pa s.cpus.length pc, by show _ = Ending.returned (shotV s.cpu (.slice ma s.mem.length mc) (.slice ta s.trace.length tc) (.slice sa (List.map (fun (n : Nat) => (n : Int)) s.starts).length sc) (.slice pa s.cpus.length pc) s.jam); rw [hjam.out], ⟨l1, h1, l2, h2, l3, h3, l4, h4, ?_⟩, b308⟩
      have u316 := Lib.hid (And.intro u309.out z315.out)
      exact ⟨s311, s312, s313, s314, by have := u316.out; omega, by have := u316.out; omega⟩
theorem specRun_any (c : CpuN) (a : Option Addr) (cap : Nat) (L : List Nat) (ax : Option Addr) (capx : Nat) (E : List EvN) (n : Int) (w : World) (hc : c.ok) (hl : L.length ≤ 1048576) (hE : E.length ≤ 1048576) (hr : RowB w a L) (hre : RowG encEv w ax E) :
    Calls Try.prog 21 #[cpuV c, ramV (.slice a L.length cap), .slice ax E.length capx, .int .i64 n] w (Shown w (shownN c L E n).int) := by
  unfold shownN
  by_cases h1 : ramN L.length = true
  · by_cases h2 : 0 ≤ n ∧ n ≤ 120
    · by_cases h3 : E.length ≤ 16
      · rw [if_pos ⟨h1, h2.1, h2.2, h3⟩]
        exact specRun_yes c a cap L ax capx E n w hc hl hE h1 h2 h3 hr hre
      · rw [if_neg (fun h => h3 h.2.2.2)]
        exact specRun_no_ev c a cap L ax capx E n w h1 h2 (by omega) hE
    · rw [if_neg (fun h => h2 ⟨h.2.1, h.2.2.1⟩)]
      exact specRun_no_n c a cap L ax capx E n w h1 h2
  · rw [if_neg (fun h => h1 h.1)]
    exact specRun_no_ram c a cap L ax capx E n w (by simpa using h1)

end Go.Proofs.Ytckfdbjjjgfbfaa
