/-
  Rows of whole numbers, processors, events and cycles: the exact laws' own helpers: sizes, copies, whether they are equal.
-/
import Derived.Test.YtckfdbjjjgfbfaaQRowG
import Derived.Test.YtckfdbjjjgfbfaaQCycRow
import Derived.Test.YtckfdbjjjgfbfaaQCpuB
import Derived.Test.YtckfdbjjjgfbfaaQWide
import Derived.Test.YtckfdbjjjgfbfaaQEvNum
import Derived.WalkSmall
namespace Go.Proofs.Ytckfdbjjjgfbfaa
set_option linter.unusedVariables false
set_option linter.unusedSimpArgs false
open Go.RowKit

def ev0 : EvN := ⟨0, false⟩
def cyc0 : CycN := ⟨0, 0, false⟩

def cpuList (c : CpuN) : List Value := [.int .u8 (c.A : Int), .int .u8 (c.X : Int), .int .u8 (c.Y : Int), .int .u8 (c.S : Int), .int .u16 (c.PC : Int), .bool c.N, .bool c.V, .bool c.D, .bool c.I, .bool c.Z, .bool c.C]

def encCpu : Enc CpuN := ⟨28, 11, cpuList, fun _ => rfl⟩

def encCyc : Enc CycN := ⟨105, 3, cycCells, fun _ => rfl⟩

theorem rowG_of {α : Type} (e : Enc α) (ks : List (Option IntKind)) (ok : α → Prop) (hk : ks.length = e.m) (hm : 0 < e.m) (hof : ∀ v, Fits ks v → ∃ x, ok x ∧ e.cells x = v) {w : World} {a : Option Addr} {len cap : Nat} (h : RowOf ks w a len cap) :
    ∃ L : List α, L.length = len ∧ RowG e w a L ∧ (∀ x ∈ L, ok x) ∧ len ≤ cap ∧ cap ≤ maxLen := by
  rcases h with ⟨rfl, rfl, rfl⟩ | ⟨x, rfl, h1, h2, V, hV⟩
  · exact ⟨[], rfl, RowG.none _ _ _, fun x hx => absurd hx (List.not_mem_nil), Nat.le_refl _, by unfold maxLen; omega⟩
  · have hone : ∀ i, i < len → ∃ y : α, ok y ∧ ∀ k, k < e.m → w.cell? (x.add (i * e.m + k)) = (e.cells y)[k]? := fun i hi => by
      obtain ⟨f, hc⟩ := hV i hi
      obtain ⟨y, hy, hyc⟩ := hof _ f
      refine ⟨y, hy, fun k hkm => ?_⟩
      have hl : k < (V i).length := by rw [fits_length f, hk]; exact hkm
      rw [hyc, ← hk, hc k (by omega), List.getD_eq_getElem?_getD, List.getElem?_eq_getElem hl]; rfl
    by_cases h0 : 0 < len
    · obtain ⟨y0, _, hy0⟩ := hone 0 h0
      have hc := hy0 0 hm
      rw [List.getElem?_eq_getElem (by rw [e.len]; exact hm)] at hc
      obtain ⟨f, hf⟩ : ∃ f : Fin len → α, ∀ i : Fin len, ok (f i) ∧ ∀ k, k < e.m → w.cell? (x.add (i * e.m + k)) = (e.cells (f i))[k]? := ⟨fun i => (hone i i.2).choose, fun i => (hone i i.2).choose_spec⟩
      obtain ⟨b, off, spot⟩ := x
      have hspot : spot = none := by simpa [Addr.add] using World.cell?_spot hc
      subst hspot
      have hadd : ∀ i, (⟨b, off, none⟩ : Addr).add i = ⟨b, off + i, none⟩ := fun i => by unfold Addr.add; split <;> simp_all
      refine ⟨List.ofFn f, List.length_ofFn, fun _ => ⟨b, off, rfl, World.block_lt_of_cell? w _ (by rw [hadd] at hc; exact hc), fun i hi k hkm => ?_⟩, fun y hy => ?_, h1, h2⟩
      · have hi' : i < len := by simpa using hi
        have := (hf ⟨i, hi'⟩).2 k hkm
        rw [hadd] at this
        rw [List.getElem_ofFn, ← this, Nat.add_assoc]
      · obtain ⟨i, rfl⟩ := List.mem_ofFn.1 hy
        exact (hf i).1
    · have : len = 0 := by omega
      subst this
      exact ⟨[], rfl, RowG.none _ _ _, fun x hx => absurd hx (List.not_mem_nil), h1, h2⟩

theorem rowOfI {w : World} {a : Option Addr} {len cap : Nat} (h : RowOf [some .i64] w a len cap) : ∃ L : List Int, L.length = len ∧ RowG encI w a L ∧ (∀ x ∈ L, (Lit.int .i64 x).wf = true) ∧ len ≤ cap ∧ cap ≤ maxLen :=
  rowG_of encI [some .i64] _ rfl Nat.one_pos (fun v f0 => by
    obtain ⟨u0, r0, rfl, ⟨n, rfl, hw⟩, f1⟩ := fits_cons f0
    obtain rfl := fits_nil f1
    exact ⟨n, hw, rfl⟩) h

theorem rowOfCyc {w : World} {a : Option Addr} {len cap : Nat} (h : RowOf [some .u16, some .u8, none] w a len cap) : ∃ L : List CycN, L.length = len ∧ RowG encCyc w a L ∧ (∀ x ∈ L, x.ok) ∧ len ≤ cap ∧ cap ≤ maxLen :=
  rowG_of encCyc [some .u16, some .u8, none] _ rfl (by decide) (fun v f0 => by
    obtain ⟨u0, r0, rfl, ⟨n0, rfl, hw0⟩, f1⟩ := fits_cons f0
    obtain ⟨u1, r1, rfl, ⟨n1, rfl, hw1⟩, f2⟩ := fits_cons f1
    obtain ⟨u2, r2, rfl, ⟨b, rfl⟩, f3⟩ := fits_cons f2
    obtain rfl := fits_nil f3
    obtain ⟨m0, rfl⟩ := Int.eq_ofNat_of_zero_le (bounds_u16 hw0).1
    obtain ⟨m1, rfl⟩ := Int.eq_ofNat_of_zero_le (bounds_u8 hw1).1
    have h0 := (bounds_u16 hw0).2
    have h1 := (bounds_u8 hw1).2
    exact ⟨⟨m0, m1, b⟩, ⟨by show m0 < 65536; omega, by show m1 < 256; omega⟩, rfl⟩) h

theorem rowOfCpu {w : World} {a : Option Addr} {len cap : Nat} (h : RowOf [some .u8, some .u8, some .u8, some .u8, some .u16, none, none, none, none, none, none] w a len cap) : ∃ L : List CpuN, L.length = len ∧ RowG encCpu w a L ∧ (∀ x ∈ L, x.ok) ∧ len ≤ cap ∧ cap ≤ maxLen :=
  rowG_of encCpu [some .u8, some .u8, some .u8, some .u8, some .u16, none, none, none, none, none, none] _ rfl (by decide) (fun v f0 => by
    obtain ⟨u0, r0, rfl, ⟨n0, rfl, hw0⟩, f1⟩ := fits_cons f0
    obtain ⟨u1, r1, rfl, ⟨n1, rfl, hw1⟩, f2⟩ := fits_cons f1
    obtain ⟨u2, r2, rfl, ⟨n2, rfl, hw2⟩, f3⟩ := fits_cons f2
    obtain ⟨u3, r3, rfl, ⟨n3, rfl, hw3⟩, f4⟩ := fits_cons f3
    obtain ⟨u4, r4, rfl, ⟨n4, rfl, hw4⟩, f5⟩ := fits_cons f4
    obtain ⟨u5, r5, rfl, ⟨b5, rfl⟩, f6⟩ := fits_cons f5
    obtain ⟨u6, r6, rfl, ⟨b6, rfl⟩, f7⟩ := fits_cons f6
    obtain ⟨u7, r7, rfl, ⟨b7, rfl⟩, f8⟩ := fits_cons f7
    obtain ⟨u8, r8, rfl, ⟨b8, rfl⟩, f9⟩ := fits_cons f8
    obtain ⟨u9, r9, rfl, ⟨b9, rfl⟩, f10⟩ := fits_cons f9
    obtain ⟨u10, r10, rfl, ⟨b10, rfl⟩, f11⟩ := fits_cons f10
    obtain rfl := fits_nil f11
    obtain ⟨m0, rfl⟩ := Int.eq_ofNat_of_zero_le (bounds_u8 hw0).1
    obtain ⟨m1, rfl⟩ := Int.eq_ofNat_of_zero_le (bounds_u8 hw1).1
    obtain ⟨m2, rfl⟩ := Int.eq_ofNat_of_zero_le (bounds_u8 hw2).1
    obtain ⟨m3, rfl⟩ := Int.eq_ofNat_of_zero_le (bounds_u8 hw3).1
    obtain ⟨m4, rfl⟩ := Int.eq_ofNat_of_zero_le (bounds_u16 hw4).1
    have h0 := (bounds_u8 hw0).2
    have h1 := (bounds_u8 hw1).2
    have h2 := (bounds_u8 hw2).2
    have h3 := (bounds_u8 hw3).2
    have h4 := (bounds_u16 hw4).2
    exact ⟨⟨m0, m1, m2, m3, m4, b5, b6, b7, b8, b9, b10⟩, ⟨by show m0 < 256; omega, by show m1 < 256; omega, by show m2 < 256; omega, by show m3 < 256; omega, by show m4 < 65536; omega⟩, rfl⟩) h

/-- A row of cycles, by its cells. -/
theorem RowG.cyc {w : World} {a : Option Addr} {L : List CycN} (h : RowG encCyc w a L) : RowC w a L := fun h0 => by
  obtain ⟨g, o, rfl, hg, hc⟩ := h h0
  exact ⟨g, o, rfl, hg, fun i hi => ⟨hc i hi 0 (by decide), hc i hi 1 (by decide), hc i hi 2 (by decide)⟩⟩

/-- What is written into cells one behind the other. -/
def setsG (w : World) (g : Nat) : Nat → List Value → World
  | _, [] => w
  | o, v :: r => setsG (w.setCell ⟨g, o, none⟩ v) g (o + 1) r

def setL (X : List Value) : Nat → List Value → List Value
  | _, [] => X
  | o, v :: r => setL (X.set o v) (o + 1) r

theorem setL_eq : ∀ (V : List Value) (X : List Value) (o : Nat), o + V.length ≤ X.length → setL X o V = X.take o ++ V ++ X.drop (o + V.length)
  | [], X, o, h => by simp [setL]
  | v :: r, X, o, h => by
    have h' : o < X.length := by rw [List.length_cons] at h; omega
    rw [setL, setL_eq r (X.set o v) (o + 1) (by rw [List.length_set, List.length_cons] at *; omega)]
    have e1 : (X.set o v).take (o + 1) = X.take o ++ [v] := by
      rw [List.take_add_one, List.take_set_of_le (Nat.le_refl o), List.getElem?_set_self h']
      rfl
    have e2 : (X.set o v).drop (o + 1 + r.length) = X.drop (o + (v :: r).length) := by
      rw [List.drop_set_of_lt (by omega), List.length_cons]
      congr 1; omega
    rw [e1, e2, List.append_assoc, List.append_assoc, List.append_assoc]
    rfl

theorem setL_row {α : Type} (e : Enc α) (L : List α) (k : Nat) (hk : k < L.length) (x : α) : setL (L.flatMap e.cells) (k * e.m) (e.cells x) = (L.set k x).flatMap e.cells := by
  have hl := flatG_len e L
  have hle : (k + 1) * e.m ≤ L.length * e.m := Nat.mul_le_mul_right _ hk
  rw [Nat.succ_mul] at hle
  rw [setL_eq _ _ _ (by rw [e.len, hl]; exact hle), e.len]
  have d1 : (L.flatMap e.cells).take (k * e.m) = (L.take k).flatMap e.cells := by
    conv => lhs; rw [← List.take_append_drop k L, List.flatMap_append]
    rw [List.take_left' (by rw [flatG_len, List.length_take, Nat.min_eq_left (Nat.le_of_lt hk)])]
  have d2 : (L.flatMap e.cells).drop (k * e.m + e.m) = (L.drop (k + 1)).flatMap e.cells := by
    conv => lhs; rw [← List.take_append_drop (k + 1) L, List.flatMap_append]
    rw [List.drop_left' (by rw [flatG_len, List.length_take, Nat.min_eq_left hk, Nat.succ_mul])]
  rw [d1, d2, List.set_eq_take_append_cons_drop, if_pos hk, List.flatMap_append, List.flatMap_cons, List.append_assoc]

theorem ownsRow_sets {base : Nat} {t : TypeId} {m g n cap : Nat} : ∀ (V : List Value) (w : World) (X : List Value) (o : Nat), w.ownsRow base t m (.slice (some ⟨g, 0, none⟩) n cap) n X → (setsG w g o V).ownsRow base t m (.slice (some ⟨g, 0, none⟩) n cap) n (setL X o V) ∧ w.grownBy (setsG w g o V) (some g)
  | [], w, X, o, h => ⟨h, World.grownBy.refl _ _⟩
  | v :: r, w, X, o, h => by
    have h1 := World.ownsRow.stored h o v
    obtain ⟨h2, h3⟩ := ownsRow_sets r _ _ (o + 1) h1.1
    exact ⟨h2, grownB_trans h1.2 h3⟩

/-- An element is written into a row of a call's own. -/
theorem own_sets {α : Type} {e : Enc α} {w : World} {base g cap : Nat} {L : List α} (h : OwnG e w base (.slice (some ⟨g, 0, none⟩) L.length cap) L) (k : Nat) (hk : k < L.length) (x : α) :
    OwnG e (setsG w g (k * e.m) (e.cells x)) base (.slice (some ⟨g, 0, none⟩) L.length cap) (L.set k x) ∧ w.grownBy (setsG w g (k * e.m) (e.cells x)) (some g) := by
  obtain ⟨h1, h2⟩ := ownsRow_sets (e.cells x) w _ (k * e.m) h
  rw [setL_row e L k hk x] at h1
  refine ⟨?_, h2⟩
  unfold OwnG
  rw [List.length_set]
  exact h1

theorem own_frozen {α : Type} {e : Enc α} {w : World} {base g n cap : Nat} {L : List α} (h : OwnG e w base (.slice (some ⟨g, 0, none⟩) n cap) L) (j : Nat) : w.frozen? ⟨g, j, none⟩ = false := by
  obtain ⟨rfl, _⟩ := OwnG.row h
  exact World.ownsRow.frozenAt h j

theorem own_at {α : Type} {e : Enc α} {w : World} {base g n cap : Nat} {L : List α} (h : OwnG e w base (.slice (some ⟨g, 0, none⟩) n cap) L) (i : Nat) (hi : i < L.length) (k : Nat) (hk : k < e.m) : w.cell? ⟨g, i * e.m + k, none⟩ = (e.cells L[i])[k]? := by
  obtain ⟨rfl, hr⟩ := OwnG.row h
  obtain ⟨g', o', e1, _, hc⟩ := hr (by omega)
  simp only [Option.some.injEq, Addr.mk.injEq, and_true] at e1
  obtain ⟨rfl, rfl⟩ := e1
  have := hc i hi k hk
  rwa [Nat.zero_add] at this

/-- The first k elements of a copy. -/
def partG {α : Type} (z : α) (L : List α) (k : Nat) : List α := L.take k ++ List.replicate (L.length - k) z

theorem partG_len {α : Type} (z : α) (L : List α) (k : Nat) (hk : k ≤ L.length) : (partG z L k).length = L.length := by simp [partG]; omega

theorem partG_set {α : Type} (z : α) (L : List α) (k : Nat) (hk : k < L.length) : (partG z L k).set k L[k] = partG z L (k + 1) := by
  unfold partG
  rw [List.set_append_right _ _ (by simp; omega)]
  have e1 : k - (List.take k L).length = 0 := by simp; omega
  have e2 : L.length - k = (L.length - (k + 1)) + 1 := by omega
  rw [e1, e2, List.replicate_succ, List.set_cons_zero, List.take_add_one, List.getElem?_eq_getElem hk, List.append_assoc]
  rfl

theorem partG_zero {α : Type} (z : α) (L : List α) : partG z L 0 = List.replicate L.length z := by simp [partG]

theorem partG_all {α : Type} (z : α) (L : List α) : partG z L L.length = L := by simp [partG]

theorem made_cells {α : Type} (e : Enc α) (z : α) (hm : 0 < e.m) (n : Nat) : (madeCells (e.cells z).toArray (n * e.m)).toList = (List.replicate n z).flatMap e.cells := by
  apply List.ext_getElem?
  intro j
  by_cases hj : j < n * e.m
  · have hi : j / e.m < n := (Nat.div_lt_iff_lt_mul hm).2 hj
    have hf := flatG_at e (List.replicate n z) (j / e.m) (by simpa using hi) (j % e.m) (Nat.mod_lt _ hm)
    rw [Nat.mul_comm, Nat.div_add_mod] at hf
    rw [hf]
    simp [madeCells, hj, e.len, Nat.mod_lt _ hm]
  · have h1 : (madeCells (e.cells z).toArray (n * e.m)).toList.length ≤ j := by simp [madeCells]; omega
    rw [List.getElem?_eq_none h1, List.getElem?_eq_none (by rw [flatG_len, List.length_replicate]; omega)]

theorem makeG {α : Type} (e : Enc α) (z : α) (hm : 0 < e.m) (ts : TypeId) (zv : Value) (bytes : Nat) (ht : Try.prog.underlying ts = some (.slice e.t)) (hinfo : (Try.prog.info? e.t).map (fun i => (i.zero, i.size, i.bytes)) = some (some zv, e.m, bytes)) (hz : zv.cells = (e.cells z).toArray) (n : Nat) (hb : bytes * n ≤ 281474976710656) (hn : n ≤ 1048576) (w : World) :
    (Instr.makeSlice ts (.int .i64 (n : Int)) (.int .i64 (n : Int))).run Try.prog w = .ok (.slice (some ⟨w.heap.size, 0, none⟩) n n) (w.alloc (.cells (madeCells (e.cells z).toArray (n * e.m)) e.t)) ∧
      OwnG e (w.alloc (.cells (madeCells (e.cells z).toArray (n * e.m)) e.t)) w.heap.size (.slice (some ⟨w.heap.size, 0, none⟩) n n) (List.replicate n z) := by
  obtain ⟨i0, hi, hz0, hz1, hz2⟩ := info_parts hinfo
  have hb2 : (i0.bytes : Int) * (n : Int) ≤ 281474976710656 := by
    rw [hz2]
    have h : ((bytes * n : Nat) : Int) ≤ 281474976710656 := by omega
    rwa [Int.natCast_mul] at h
  have hr := run_make (P := Try.prog) w ts e.t i0 zv ht hi hz0 .i64 .i64 n n (by omega) (Int.le_refl _) hb2 (by omega)
  simp only [Int.toNat_natCast, hz1, hz] at hr
  refine ⟨hr, ?_⟩
  unfold OwnG
  rw [List.length_replicate, ← made_cells e z hm n]
  exact World.ownsRow_lit w _ n (Nat.le_refl _) (by unfold maxLen; omega) (size_madeCells _ _)

theorem szCyc_any (a : Option Addr) (n c : Nat) (l : Int) (hn : n ≤ maxLen) (hl : 0 ≤ l ∧ l ≤ 1048576) (w : World) :
    Calls Try.prog 34 #[.slice a n c, .int .i64 l] w fun e w' => e = .returned (.int .i64 (if l - n < 0 then -1 else l - n)) ∧ Below w.heap.size w w' := by
  unfold maxLen at hn
  by_cases h : l - n < 0
  · rw [if_pos h]
    go_enter Try.func34, Try.ntmps34
    go_wp2
    go_ret
    exact ⟨rfl, Below.refl _ _⟩
  · rw [if_neg h]
    go_enter Try.func34, Try.ntmps34
    go_wp2
    go_ret
    exact ⟨rfl, Below.refl _ _⟩

theorem szInt_any (a : Option Addr) (n c : Nat) (l : Int) (hn : n ≤ maxLen) (hl : 0 ≤ l ∧ l ≤ 1048576) (w : World) :
    Calls Try.prog 35 #[.slice a n c, .int .i64 l] w fun e w' => e = .returned (.int .i64 (if l - n < 0 then -1 else l - n)) ∧ Below w.heap.size w w' := by
  unfold maxLen at hn
  by_cases h : l - n < 0
  · rw [if_pos h]
    go_enter Try.func35, Try.ntmps35
    go_wp2
    go_ret
    exact ⟨rfl, Below.refl _ _⟩
  · rw [if_neg h]
    go_enter Try.func35, Try.ntmps35
    go_wp2
    go_ret
    exact ⟨rfl, Below.refl _ _⟩

theorem szCpu_any (a : Option Addr) (n c : Nat) (l : Int) (hn : n ≤ maxLen) (hl : 0 ≤ l ∧ l ≤ 1048576) (w : World) :
    Calls Try.prog 36 #[.slice a n c, .int .i64 l] w fun e w' => e = .returned (.int .i64 (if l - n < 0 then -1 else l - n)) ∧ Below w.heap.size w w' := by
  unfold maxLen at hn
  by_cases h : l - n < 0
  · rw [if_pos h]
    go_enter Try.func36, Try.ntmps36
    go_wp2
    go_ret
    exact ⟨rfl, Below.refl _ _⟩
  · rw [if_neg h]
    go_enter Try.func36, Try.ntmps36
    go_wp2
    go_ret
    exact ⟨rfl, Below.refl _ _⟩

theorem toCyc_any (x : CycN) (w : World) :
    Calls Try.prog 59 #[.agg #[.int .u16 (x.addr : Int), .int .u8 (x.data : Int), .bool x.wr]] w fun e w' => e = .returned (.agg #[.int .u16 (x.addr : Int), .int .u8 (x.data : Int), .bool x.wr]) ∧ Below w.heap.size w w' := by
  obtain ⟨p, q, b⟩ := x
  go_enter Try.func59, Try.ntmps59
  go_wp2
  exact bodyPost_ret (v := .agg #[.int .u16 (p : Int), .int .u8 (q : Int), .bool b]) (by simp [results, Try.results59, go_sem]) rfl ⟨rfl, (((Below.refl _ _).alloc (Nat.le_refl _) _).alloc (by simp) _).alloc (by simp; omega) _⟩

theorem rowInt_at {w : World} {a : Option Addr} {L : List Int} (h : RowG encI w a L) (i : Nat) (hi : i < L.length) :
    ∃ g o, a = some ⟨g, o, none⟩ ∧ g < w.heap.size ∧ w.cell? ⟨g, o + i, none⟩ = some (.int .i64 L[i]) := by
  obtain ⟨g, o, rfl, hg, hc⟩ := h (by omega)
  exact ⟨g, o, rfl, hg, by simpa [encI] using hc i hi 0 (by decide)⟩

theorem rowCpu_at {w : World} {a : Option Addr} {L : List CpuN} (h : RowG encCpu w a L) (i : Nat) (hi : i < L.length) :
    ∃ g o, a = some ⟨g, o, none⟩ ∧ g < w.heap.size ∧ w.cell? ⟨g, o + i * 11, none⟩ = some (.int .u8 (L[i].A : Int)) ∧ w.cell? ⟨g, o + i * 11 + 1, none⟩ = some (.int .u8 (L[i].X : Int)) ∧ w.cell? ⟨g, o + i * 11 + 2, none⟩ = some (.int .u8 (L[i].Y : Int)) ∧ w.cell? ⟨g, o + i * 11 + 3, none⟩ = some (.int .u8 (L[i].S : Int)) ∧ w.cell? ⟨g, o + i * 11 + 4, none⟩ = some (.int .u16 (L[i].PC : Int)) ∧ w.cell? ⟨g, o + i * 11 + 5, none⟩ = some (.bool L[i].N) ∧ w.cell? ⟨g, o + i * 11 + 6, none⟩ = some (.bool L[i].V) ∧ w.cell? ⟨g, o + i * 11 + 7, none⟩ = some (.bool L[i].D) ∧ w.cell? ⟨g, o + i * 11 + 8, none⟩ = some (.bool L[i].I) ∧ w.cell? ⟨g, o + i * 11 + 9, none⟩ = some (.bool L[i].Z) ∧ w.cell? ⟨g, o + i * 11 + 10, none⟩ = some (.bool L[i].C) := by
  obtain ⟨g, o, rfl, hg, hc⟩ := h (by omega)
  exact ⟨g, o, rfl, hg, hc i hi 0 (by decide), hc i hi 1 (by decide), hc i hi 2 (by decide), hc i hi 3 (by decide), hc i hi 4 (by decide), hc i hi 5 (by decide), hc i hi 6 (by decide), hc i hi 7 (by decide), hc i hi 8 (by decide), hc i hi 9 (by decide), hc i hi 10 (by decide)⟩

theorem rowCyc_at {w : World} {a : Option Addr} {L : List CycN} (h : RowG encCyc w a L) (i : Nat) (hi : i < L.length) :
    ∃ g o, a = some ⟨g, o, none⟩ ∧ g < w.heap.size ∧ w.cell? ⟨g, o + i * 3, none⟩ = some (.int .u16 (L[i].addr : Int)) ∧ w.cell? ⟨g, o + i * 3 + 1, none⟩ = some (.int .u8 (L[i].data : Int)) ∧ w.cell? ⟨g, o + i * 3 + 2, none⟩ = some (.bool L[i].wr) := by
  obtain ⟨g, o, rfl, hg, hc⟩ := h (by omega)
  exact ⟨g, o, rfl, hg, hc i hi 0 (by decide), hc i hi 1 (by decide), hc i hi 2 (by decide)⟩

set_option maxRecDepth 100000 in
theorem eqIntS_any (a1 a2 : Option Addr) (c1 c2 : Nat) (L : List Int) (w : World) (hl : L.length ≤ 1048576) (h1 : RowG encI w a1 L) (h2 : RowG encI w a2 L) :
    Calls Try.prog 43 #[.slice a1 L.length c1, .slice a2 L.length c2] w fun e w' => e = .returned (.bool true) ∧ Below w.heap.size w w' := by
  have H1 := Lib.hid h1
  have H2 := Lib.hid h2
  clear h1 h2
  go_enter Try.func43, Try.ntmps43
  go_wp2
  go_loopw [5] (fun i wr => ∃ k : Nat, k ≤ L.length ∧ i = .int .i64 k ∧ Below w.heap.size w wr) (fun i _ => L.length - (intOf i).toNat)
  case atStart => exact ⟨0, Nat.zero_le _, rfl, Below.refl _ _⟩
  case round =>
    obtain ⟨k, hk, rfl, hb⟩ := hrel
    by_cases hp : k < L.length
    · obtain ⟨g1, o1, rfl, _, p0⟩ := rowInt_at (H1.out.below hb) k hp
      obtain ⟨g2, o2, rfl, _, q0⟩ := rowInt_at (H2.out.below hb) k hp
      obtain ⟨x, hx⟩ : ∃ x, L[k] = x := ⟨_, rfl⟩
      rw [hx] at p0 q0
      clear hx
      have ik : (0 : Int) ≤ (k : Int) ∧ (k : Int) < (L.length : Int) := by omega
      go_wp2
      go_quiet (fail)
      go_wp2
      go_roundw
      case rel => exact ⟨k + 1, by omega, by go_num, below_drewN hb _⟩
      case measure => simp [intOf]; omega
    · go_wp2
      go_ret
      exact ⟨rfl, hb⟩

set_option maxRecDepth 100000 in
theorem eqCpuS_any (a1 a2 : Option Addr) (c1 c2 : Nat) (L : List CpuN) (w : World) (hl : L.length ≤ 1048576) (h1 : RowG encCpu w a1 L) (h2 : RowG encCpu w a2 L) :
    Calls Try.prog 44 #[.slice a1 L.length c1, .slice a2 L.length c2] w fun e w' => e = .returned (.bool true) ∧ Below w.heap.size w w' := by
  have H1 := Lib.hid h1
  have H2 := Lib.hid h2
  clear h1 h2
  go_enter Try.func44, Try.ntmps44
  go_wp2
  go_loopw [5] (fun i wr => ∃ k : Nat, k ≤ L.length ∧ i = .int .i64 k ∧ Below w.heap.size w wr) (fun i _ => L.length - (intOf i).toNat)
  case atStart => exact ⟨0, Nat.zero_le _, rfl, Below.refl _ _⟩
  case round =>
    obtain ⟨k, hk, rfl, hb⟩ := hrel
    by_cases hp : k < L.length
    · obtain ⟨g1, o1, rfl, _, p0, p1, p2, p3, p4, p5, p6, p7, p8, p9, p10⟩ := rowCpu_at (H1.out.below hb) k hp
      obtain ⟨g2, o2, rfl, _, q0, q1, q2, q3, q4, q5, q6, q7, q8, q9, q10⟩ := rowCpu_at (H2.out.below hb) k hp
      obtain ⟨x, hx⟩ : ∃ x, L[k] = x := ⟨_, rfl⟩
      rw [hx] at p0 p1 p2 p3 p4 p5 p6 p7 p8 p9 p10 q0 q1 q2 q3 q4 q5 q6 q7 q8 q9 q10
      clear hx
      have ik : (0 : Int) ≤ (k : Int) ∧ (k : Int) < (L.length : Int) := by omega
      go_wp2_with fail
      go_still_tail 8, (by kernel_rfl)
      change wpList _ _ _ _ _ wr.drew
      go_wp2_with fail
      refine (eqCpu_any x _).mono ?_
      rintro e w1 ⟨rfl, d1⟩
      have b1 := bstep hb.drew d1
      go_wp2
      go_roundw
      case rel => exact ⟨k + 1, by omega, by go_num, b1⟩
      case measure => simp [intOf]; omega
    · go_wp2
      go_ret
      exact ⟨rfl, hb⟩

theorem infoIntG : (Try.prog.info? 3).map (fun i => (i.zero, i.size, i.bytes)) = some (some (.int .i64 0), 1, 8) := by kernel_rfl

theorem makeInt (n : Nat) (hn : n ≤ 1048576) : ∃ C : Array Value,
    (∀ w, (Instr.makeSlice 32 (.int .i64 (n : Int)) (.int .i64 (n : Int))).run Try.prog w = .ok (.slice (some ⟨w.heap.size, 0, none⟩) n n) (w.alloc (.cells C 3))) ∧
      ∀ w : World, OwnG encI (w.alloc (.cells C 3)) w.heap.size (.slice (some ⟨w.heap.size, 0, none⟩) n n) (List.replicate n 0) :=
  have h := fun w => makeG encI 0 (by decide) 32 (.int .i64 0) 8 Try.underlying32 infoIntG rfl n (by omega) hn w
  ⟨_, fun w => (h w).1, fun w => (h w).2⟩

set_option maxRecDepth 100000 in
theorem toIntS_any (a : Option Addr) (cap : Nat) (L : List Int) (w : World) (hl : L.length ≤ 1048576) (h : RowG encI w a L) :
    Calls Try.prog 40 #[.slice a L.length cap] w fun e w' => e = .returned (.slice (some ⟨w.heap.size, 0, none⟩) L.length L.length) ∧ OwnG encI w' w.heap.size (.slice (some ⟨w.heap.size, 0, none⟩) L.length L.length) L ∧ Below w.heap.size w w' := by
  obtain ⟨C, hmk, hOW⟩ := makeInt L.length hl
  have HOW := Lib.hid (hOW w)
  clear hOW
  have HR := Lib.hid h
  clear h
  go_enter Try.func40, Try.ntmps40
  go_wp2
  obtain ⟨W0, hW0⟩ : ∃ W0, W0 = w.alloc (.cells C 3) := ⟨_, rfl⟩
  rw [← hW0]
  rw [← hW0] at HOW
  have hB0 : Below w.heap.size w W0 := by rw [hW0]; exact (Below.refl _ _).alloc (Nat.le_refl _) _
  clear hmk hW0
  go_loopw [4] (fun i wr => ∃ k : Nat, k ≤ L.length ∧ i = .int .i64 k ∧ Hid (OwnG encI wr w.heap.size (.slice (some ⟨w.heap.size, 0, none⟩) L.length L.length) (partG 0 L k)) ∧ Below w.heap.size w wr) (fun i _ => L.length - (intOf i).toNat)
  case atStart => exact ⟨0, Nat.zero_le _, rfl, Lib.hid (by rw [partG_zero]; exact HOW.out), hB0⟩
  case round =>
    obtain ⟨k, hk, rfl, HO, hb⟩ := hrel
    by_cases hp : k < L.length
    · obtain ⟨g, o, rfl, _, p0⟩ := rowInt_at (HR.out.below hb) k hp
      have HSET := Lib.hid (partG_set 0 L k hp)
      obtain ⟨x, hx⟩ : ∃ x, L[k] = x := ⟨_, rfl⟩
      rw [hx] at p0 HSET
      clear hx
      have HLN := Lib.hid (partG_len 0 L k hk)
      have ik : (0 : Int) ≤ (k : Int) ∧ (k : Int) < (L.length : Int) := by omega
      have hO : OwnG encI wr w.heap.size (.slice (some ⟨w.heap.size, 0, none⟩) (partG 0 L k).length L.length) (partG 0 L k) := by rw [HLN.out]; exact HO.out
      have hst := own_sets hO k (by rw [HLN.out]; exact hp) x
      rw [HSET.out, HLN.out, show k * encI.m = k from Nat.mul_one k] at hst
      have HST := Lib.hid hst
      have y0 := own_frozen hO (k)
      obtain ⟨u0, v0⟩ : ∃ u, wr.cell? ⟨w.heap.size, k, none⟩ = some u := by
        have := own_at hO k (by rw [HLN.out]; exact hp) 0 (by decide)
        rw [List.getElem?_eq_getElem (by rw [encI.len]; decide)] at this
        exact ⟨_, by simpa [encI] using this⟩
      have hwb : w.heap.size < wr.heap.size := ((World.ownsRow.lt hO) w.heap.size rfl).2
      clear hO hst
      go_wp2
      go_roundw
      case rel =>
        refine ⟨k + 1, by omega, by go_num, Lib.hid HST.out.1, ?_⟩
        have hg := HST.out.2
        exact Below.grown hb hg (Nat.le_of_lt hwb) (fun k ek => by cases ek; exact Nat.le_refl _)
      case measure => simp [intOf]; omega
    · obtain rfl : k = L.length := by omega
      have hO := HO.out
      rw [partG_all] at hO
      clear HO HOW hB0
      go_wp2
      go_ret
      exact ⟨rfl, hO, hb⟩

theorem infoCpuG : (Try.prog.info? 28).map (fun i => (i.zero, i.size, i.bytes)) = some (some (.agg (cpuCells cpu0)), 11, 12) := by kernel_rfl

theorem makeCpu (n : Nat) (hn : n ≤ 1048576) : ∃ C : Array Value,
    (∀ w, (Instr.makeSlice 33 (.int .i64 (n : Int)) (.int .i64 (n : Int))).run Try.prog w = .ok (.slice (some ⟨w.heap.size, 0, none⟩) n n) (w.alloc (.cells C 28))) ∧
      ∀ w : World, OwnG encCpu (w.alloc (.cells C 28)) w.heap.size (.slice (some ⟨w.heap.size, 0, none⟩) n n) (List.replicate n cpu0) :=
  have h := fun w => makeG encCpu cpu0 (by decide) 33 (.agg (cpuCells cpu0)) 12 Try.underlying33 infoCpuG rfl n (by omega) hn w
  ⟨_, fun w => (h w).1, fun w => (h w).2⟩

set_option maxRecDepth 100000 in
theorem toCpuS_any (a : Option Addr) (cap : Nat) (L : List CpuN) (w : World) (hl : L.length ≤ 1048576) (h : RowG encCpu w a L) :
    Calls Try.prog 41 #[.slice a L.length cap] w fun e w' => e = .returned (.slice (some ⟨w.heap.size, 0, none⟩) L.length L.length) ∧ OwnG encCpu w' w.heap.size (.slice (some ⟨w.heap.size, 0, none⟩) L.length L.length) L ∧ Below w.heap.size w w' := by
  obtain ⟨C, hmk, hOW⟩ := makeCpu L.length hl
  have HOW := Lib.hid (hOW w)
  clear hOW
  have HR := Lib.hid h
  clear h
  go_enter Try.func41, Try.ntmps41
  go_wp2
  obtain ⟨W0, hW0⟩ : ∃ W0, W0 = w.alloc (.cells C 28) := ⟨_, rfl⟩
  rw [← hW0]
  rw [← hW0] at HOW
  have hB0 : Below w.heap.size w W0 := by rw [hW0]; exact (Below.refl _ _).alloc (Nat.le_refl _) _
  clear hmk hW0
  go_loopw [4] (fun i wr => ∃ k : Nat, k ≤ L.length ∧ i = .int .i64 k ∧ Hid (OwnG encCpu wr w.heap.size (.slice (some ⟨w.heap.size, 0, none⟩) L.length L.length) (partG cpu0 L k)) ∧ Below w.heap.size w wr) (fun i _ => L.length - (intOf i).toNat)
  case atStart => exact ⟨0, Nat.zero_le _, rfl, Lib.hid (by rw [partG_zero]; exact HOW.out), hB0⟩
  case round =>
    obtain ⟨k, hk, rfl, HO, hb⟩ := hrel
    by_cases hp : k < L.length
    · obtain ⟨g, o, rfl, _, p0, p1, p2, p3, p4, p5, p6, p7, p8, p9, p10⟩ := rowCpu_at (HR.out.below hb) k hp
      have HSET := Lib.hid (partG_set cpu0 L k hp)
      obtain ⟨x, hx⟩ : ∃ x, L[k] = x := ⟨_, rfl⟩
      rw [hx] at p0 p1 p2 p3 p4 p5 p6 p7 p8 p9 p10 HSET
      clear hx
      have HLN := Lib.hid (partG_len cpu0 L k hk)
      have ik : (0 : Int) ≤ (k : Int) ∧ (k : Int) < (L.length : Int) := by omega
      go_wp2_with fail
      refine (toCpu_any x _).mono ?_
      rintro e w1 ⟨rfl, d1⟩
      have hO : OwnG encCpu w1 w.heap.size (.slice (some ⟨w.heap.size, 0, none⟩) (partG cpu0 L k).length L.length) (partG cpu0 L k) := by rw [HLN.out]; exact (HO.out.below d1)
      have hst := own_sets hO k (by rw [HLN.out]; exact hp) x
      rw [HSET.out, HLN.out] at hst
      have HST := Lib.hid hst
      have y0 := own_frozen hO (k * 11)
      obtain ⟨u0, v0⟩ : ∃ u, w1.cell? ⟨w.heap.size, k * 11, none⟩ = some u := by
        have := own_at hO k (by rw [HLN.out]; exact hp) 0 (by decide)
        rw [List.getElem?_eq_getElem (by rw [encCpu.len]; decide)] at this
        exact ⟨_, by simpa [encCpu] using this⟩
      have y1 := own_frozen hO (k * 11 + 1)
      obtain ⟨u1, v1⟩ : ∃ u, w1.cell? ⟨w.heap.size, k * 11 + 1, none⟩ = some u := by
        have := own_at hO k (by rw [HLN.out]; exact hp) 1 (by decide)
        rw [List.getElem?_eq_getElem (by rw [encCpu.len]; decide)] at this
        exact ⟨_, by simpa [encCpu] using this⟩
      have y2 := own_frozen hO (k * 11 + 2)
      obtain ⟨u2, v2⟩ : ∃ u, w1.cell? ⟨w.heap.size, k * 11 + 2, none⟩ = some u := by
        have := own_at hO k (by rw [HLN.out]; exact hp) 2 (by decide)
        rw [List.getElem?_eq_getElem (by rw [encCpu.len]; decide)] at this
        exact ⟨_, by simpa [encCpu] using this⟩
      have y3 := own_frozen hO (k * 11 + 3)
      obtain ⟨u3, v3⟩ : ∃ u, w1.cell? ⟨w.heap.size, k * 11 + 3, none⟩ = some u := by
        have := own_at hO k (by rw [HLN.out]; exact hp) 3 (by decide)
        rw [List.getElem?_eq_getElem (by rw [encCpu.len]; decide)] at this
        exact ⟨_, by simpa [encCpu] using this⟩
      have y4 := own_frozen hO (k * 11 + 4)
      obtain ⟨u4, v4⟩ : ∃ u, w1.cell? ⟨w.heap.size, k * 11 + 4, none⟩ = some u := by
        have := own_at hO k (by rw [HLN.out]; exact hp) 4 (by decide)
        rw [List.getElem?_eq_getElem (by rw [encCpu.len]; decide)] at this
        exact ⟨_, by simpa [encCpu] using this⟩
      have y5 := own_frozen hO (k * 11 + 5)
      obtain ⟨u5, v5⟩ : ∃ u, w1.cell? ⟨w.heap.size, k * 11 + 5, none⟩ = some u := by
        have := own_at hO k (by rw [HLN.out]; exact hp) 5 (by decide)
        rw [List.getElem?_eq_getElem (by rw [encCpu.len]; decide)] at this
        exact ⟨_, by simpa [encCpu] using this⟩
      have y6 := own_frozen hO (k * 11 + 6)
      obtain ⟨u6, v6⟩ : ∃ u, w1.cell? ⟨w.heap.size, k * 11 + 6, none⟩ = some u := by
        have := own_at hO k (by rw [HLN.out]; exact hp) 6 (by decide)
        rw [List.getElem?_eq_getElem (by rw [encCpu.len]; decide)] at this
        exact ⟨_, by simpa [encCpu] using this⟩
      have y7 := own_frozen hO (k * 11 + 7)
      obtain ⟨u7, v7⟩ : ∃ u, w1.cell? ⟨w.heap.size, k * 11 + 7, none⟩ = some u := by
        have := own_at hO k (by rw [HLN.out]; exact hp) 7 (by decide)
        rw [List.getElem?_eq_getElem (by rw [encCpu.len]; decide)] at this
        exact ⟨_, by simpa [encCpu] using this⟩
      have y8 := own_frozen hO (k * 11 + 8)
      obtain ⟨u8, v8⟩ : ∃ u, w1.cell? ⟨w.heap.size, k * 11 + 8, none⟩ = some u := by
        have := own_at hO k (by rw [HLN.out]; exact hp) 8 (by decide)
        rw [List.getElem?_eq_getElem (by rw [encCpu.len]; decide)] at this
        exact ⟨_, by simpa [encCpu] using this⟩
      have y9 := own_frozen hO (k * 11 + 9)
      obtain ⟨u9, v9⟩ : ∃ u, w1.cell? ⟨w.heap.size, k * 11 + 9, none⟩ = some u := by
        have := own_at hO k (by rw [HLN.out]; exact hp) 9 (by decide)
        rw [List.getElem?_eq_getElem (by rw [encCpu.len]; decide)] at this
        exact ⟨_, by simpa [encCpu] using this⟩
      have y10 := own_frozen hO (k * 11 + 10)
      obtain ⟨u10, v10⟩ : ∃ u, w1.cell? ⟨w.heap.size, k * 11 + 10, none⟩ = some u := by
        have := own_at hO k (by rw [HLN.out]; exact hp) 10 (by decide)
        rw [List.getElem?_eq_getElem (by rw [encCpu.len]; decide)] at this
        exact ⟨_, by simpa [encCpu] using this⟩
      have hwb : w.heap.size < w1.heap.size := ((World.ownsRow.lt hO) w.heap.size rfl).2
      clear hO hst
      have b1 := bstep hb d1
      clear d1 hb
      go_wp2
      go_roundw
      case rel =>
        refine ⟨k + 1, by omega, by go_num, Lib.hid HST.out.1, ?_⟩
        have hg := HST.out.2
        exact Below.grown b1 hg (Nat.le_of_lt hwb) (fun k ek => by cases ek; exact Nat.le_refl _)
      case measure => simp [intOf]; omega
    · obtain rfl : k = L.length := by omega
      have hO := HO.out
      rw [partG_all] at hO
      clear HO HOW hB0
      go_wp2
      go_ret
      exact ⟨rfl, hO, hb⟩

theorem infoCycG : (Try.prog.info? 105).map (fun i => (i.zero, i.size, i.bytes)) = some (some (.agg #[.int .u16 0, .int .u8 0, .bool false]), 3, 4) := by kernel_rfl

theorem makeCyc (n : Nat) (hn : n ≤ 1048576) : ∃ C : Array Value,
    (∀ w, (Instr.makeSlice 31 (.int .i64 (n : Int)) (.int .i64 (n : Int))).run Try.prog w = .ok (.slice (some ⟨w.heap.size, 0, none⟩) n n) (w.alloc (.cells C 105))) ∧
      ∀ w : World, OwnG encCyc (w.alloc (.cells C 105)) w.heap.size (.slice (some ⟨w.heap.size, 0, none⟩) n n) (List.replicate n cyc0) :=
  have h := fun w => makeG encCyc cyc0 (by decide) 31 (.agg #[.int .u16 0, .int .u8 0, .bool false]) 4 Try.underlying31 infoCycG rfl n (by omega) hn w
  ⟨_, fun w => (h w).1, fun w => (h w).2⟩

set_option maxRecDepth 100000 in
theorem toCycS_any (a : Option Addr) (cap : Nat) (L : List CycN) (w : World) (hl : L.length ≤ 1048576) (h : RowG encCyc w a L) :
    Calls Try.prog 39 #[.slice a L.length cap] w fun e w' => e = .returned (.slice (some ⟨w.heap.size, 0, none⟩) L.length L.length) ∧ OwnG encCyc w' w.heap.size (.slice (some ⟨w.heap.size, 0, none⟩) L.length L.length) L ∧ Below w.heap.size w w' := by
  obtain ⟨C, hmk, hOW⟩ := makeCyc L.length hl
  have HOW := Lib.hid (hOW w)
  clear hOW
  have HR := Lib.hid h
  clear h
  go_enter Try.func39, Try.ntmps39
  go_wp2
  obtain ⟨W0, hW0⟩ : ∃ W0, W0 = w.alloc (.cells C 105) := ⟨_, rfl⟩
  rw [← hW0]
  rw [← hW0] at HOW
  have hB0 : Below w.heap.size w W0 := by rw [hW0]; exact (Below.refl _ _).alloc (Nat.le_refl _) _
  clear hmk hW0
  go_loopw [4] (fun i wr => ∃ k : Nat, k ≤ L.length ∧ i = .int .i64 k ∧ Hid (OwnG encCyc wr w.heap.size (.slice (some ⟨w.heap.size, 0, none⟩) L.length L.length) (partG cyc0 L k)) ∧ Below w.heap.size w wr) (fun i _ => L.length - (intOf i).toNat)
  case atStart => exact ⟨0, Nat.zero_le _, rfl, Lib.hid (by rw [partG_zero]; exact HOW.out), hB0⟩
  case round =>
    obtain ⟨k, hk, rfl, HO, hb⟩ := hrel
    by_cases hp : k < L.length
    · obtain ⟨g, o, rfl, _, p0, p1, p2⟩ := rowCyc_at (HR.out.below hb) k hp
      have HSET := Lib.hid (partG_set cyc0 L k hp)
      obtain ⟨x, hx⟩ : ∃ x, L[k] = x := ⟨_, rfl⟩
      rw [hx] at p0 p1 p2 HSET
      clear hx
      have HLN := Lib.hid (partG_len cyc0 L k hk)
      have ik : (0 : Int) ≤ (k : Int) ∧ (k : Int) < (L.length : Int) := by omega
      go_wp2_with fail
      refine (toCyc_any x _).mono ?_
      rintro e w1 ⟨rfl, d1⟩
      have hO : OwnG encCyc w1 w.heap.size (.slice (some ⟨w.heap.size, 0, none⟩) (partG cyc0 L k).length L.length) (partG cyc0 L k) := by rw [HLN.out]; exact (HO.out.below d1)
      have hst := own_sets hO k (by rw [HLN.out]; exact hp) x
      rw [HSET.out, HLN.out] at hst
      have HST := Lib.hid hst
      have y0 := own_frozen hO (k * 3)
      obtain ⟨u0, v0⟩ : ∃ u, w1.cell? ⟨w.heap.size, k * 3, none⟩ = some u := by
        have := own_at hO k (by rw [HLN.out]; exact hp) 0 (by decide)
        rw [List.getElem?_eq_getElem (by rw [encCyc.len]; decide)] at this
        exact ⟨_, by simpa [encCyc] using this⟩
      have y1 := own_frozen hO (k * 3 + 1)
      obtain ⟨u1, v1⟩ : ∃ u, w1.cell? ⟨w.heap.size, k * 3 + 1, none⟩ = some u := by
        have := own_at hO k (by rw [HLN.out]; exact hp) 1 (by decide)
        rw [List.getElem?_eq_getElem (by rw [encCyc.len]; decide)] at this
        exact ⟨_, by simpa [encCyc] using this⟩
      have y2 := own_frozen hO (k * 3 + 2)
      obtain ⟨u2, v2⟩ : ∃ u, w1.cell? ⟨w.heap.size, k * 3 + 2, none⟩ = some u := by
        have := own_at hO k (by rw [HLN.out]; exact hp) 2 (by decide)
        rw [List.getElem?_eq_getElem (by rw [encCyc.len]; decide)] at this
        exact ⟨_, by simpa [encCyc] using this⟩
      have hwb : w.heap.size < w1.heap.size := ((World.ownsRow.lt hO) w.heap.size rfl).2
      clear hO hst
      have b1 := bstep hb d1
      clear d1 hb
      go_wp2
      go_roundw
      case rel =>
        refine ⟨k + 1, by omega, by go_num, Lib.hid HST.out.1, ?_⟩
        have hg := HST.out.2
        exact Below.grown b1 hg (Nat.le_of_lt hwb) (fun k ek => by cases ek; exact Nat.le_refl _)
      case measure => simp [intOf]; omega
    · obtain rfl : k = L.length := by omega
      have hO := HO.out
      rw [partG_all] at hO
      clear HO HOW hB0
      go_wp2
      go_ret
      exact ⟨rfl, hO, hb⟩

end Go.Proofs.Ytckfdbjjjgfbfaa
