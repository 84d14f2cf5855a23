/-
  Contracts over the program: numbers that are drawn: l01PickInt, l01Num, and what DrawDecText and DrawHexText tell.
-/
import Derived.Test.YtppkcljpfjdlnaaDraw
namespace Go.Proofs.Ytppkcljpfjdlnaa
set_option linter.unusedVariables false
set_option linter.unusedSimpArgs false
open Go.RowKit

set_option maxRecDepth 100000 in
theorem pickInt_drawn (n₀ B : Nat) (a : Option Addr) (len cap : Nat) (z : List Int) (s : Nat × Int) (g n c : Nat) (xs : List Int) (w : World) (h : Drawn n₀ B a len cap z s w) (hn : 0 < n) (hn2 : n ≤ 1048576) (hgB : g ≠ B) (hg : g < w.heap.size) (hx : ∀ i, i < n → w.cell? ⟨g, i, none⟩ = some (.int .i64 (xs[i]?.getD 0))) :
    Calls Try.prog 59 #[.pointer (some ⟨B, 0, none⟩), .slice (some ⟨g, 0, none⟩) n c] w fun e w' => e = .returned (.int .i64 (xs[(belowV z len s n).toNat]?.getD 0)) ∧ Drawn n₀ B a len cap z (belowS len s n) w' ∧ w.grownBy w' (some B) := by
  obtain ⟨b0, b1⟩ := belowV_bound z len s n (by omega)
  obtain ⟨k, hk⟩ := Int.eq_ofNat_of_zero_le b0
  have HX := Lib.hid hx
  have HK := Lib.hid hk
  have hkn : k < n := by omega
  clear hx hk
  go_enter Try.func59, Try.ntmps59
  go_wp2_with fail
  refine (below_drawn n₀ B a len cap z s n _ h).mono ?_
  rintro e w1 ⟨rfl, hd1, hg1⟩
  have hc : w1.cell? ⟨g, k, none⟩ = some (.int .i64 (xs[k]?.getD 0)) := by
    rw [World.cell?_of_block (hg1.block g hg (fun e => hgB (by cases e; rfl)))]
    exact HX.out k hkn
  clear b0 b1
  rw [HK.out]
  go_wp2
  go_ret
  exact ⟨ret_intD (by rw [HK.out]; rfl), hd1, hg1⟩

theorem ints_cells (w : World) (xs : List Int) (t : TypeId) : ∀ i, i < xs.length → (w.alloc (.cells (xs.map (Value.int .i64)).toArray t)).cell? ⟨w.heap.size, i, none⟩ = some (.int .i64 (xs[i]?.getD 0)) := by
  intro i hi
  rw [World.cell?_alloc_at _ _ _ _ rfl]
  simp [hi]

/-- The numbers of which one is drawn. -/
def numL (x : Int) : List Int := [0, 1, -1, 255, 256, 65535, 65536, 999999999, 1000000000, 9223372036854775807, -9223372036854775808, x]
def numV (z : List Int) (len : Nat) (s : Nat × Int) : Int := (numL (belowV z len s 100000))[(belowV z len (belowS len s 100000) 12).toNat]?.getD 0
def numS (len : Nat) (s : Nat × Int) : Nat × Int := belowS len (belowS len s 100000) 12

theorem numL_bound (x : Int) (h0 : 0 ≤ x) (h1 : x < 100000) (i : Nat) : -9223372036854775808 ≤ (numL x)[i]?.getD 0 ∧ (numL x)[i]?.getD 0 ≤ 9223372036854775807 := by
  cases hq : (numL x)[i]? with
  | none => simp
  | some y =>
    have hm := List.mem_of_getElem? hq
    simp only [numL, List.mem_cons, List.not_mem_nil, or_false] at hm
    simp only [Option.getD_some]
    omega

theorem numV_bound (z : List Int) (len : Nat) (s : Nat × Int) : -9223372036854775808 ≤ numV z len s ∧ numV z len s ≤ 9223372036854775807 :=
  numL_bound _ (belowV_bound z len s 100000 (by omega)).1 (belowV_bound z len s 100000 (by omega)).2 _

def drawDecV (z : List Int) (len : Nat) : Int := numV z len (0, startH z len)

theorem CodeRow.start {n₀ : Nat} {w : World} {a : Option Addr} {len cap : Nat} {z : List Int} (hc : CodeRow n₀ w a len z) (hn : n₀ ≤ w.heap.size) :
    Drawn n₀ w.heap.size a len cap z (0, startH z len) (w.alloc (.cells #[.slice a len cap, .int .i64 0, .int .i64 (startH z len)] 90)) :=
  ⟨hc.kept ((Below.refl _ _).alloc hn _), World.alloc_heap_new w _, hn⟩

def drawHexV (z : List Int) (len : Nat) : Int := belowV z len (numS len (0, startH z len)) 11 - 1

theorem drawHexV_bound (z : List Int) (len : Nat) : -1 ≤ drawHexV z len ∧ drawHexV z len ≤ 9 := by
  have := belowV_bound z len (numS len (0, startH z len)) 11 (by omega)
  unfold drawHexV
  omega

end Go.Proofs.Ytppkcljpfjdlnaa
