/-
  Contracts over the program: a player in memory, and its smallest moves.
-/
import Derived.Test.YtblchdmemhhcbaaQSPlayA
import Derived.Test.YtblchdmemhhcbaaQSAluE
import Derived.StillTailTactics
namespace Go.Proofs.Ytblchdmemhhcbaa
set_option linter.unusedVariables false
set_option linter.unusedSimpArgs false
open Go.RowKit

/-- An operation's name, mode, size and kind. -/
structure OpK where
  nm : ByteArray
  md : Int
  sz : Int
  kd : Int

abbrev playCells (c : CpuN) (o : Option Nat) (k : OpK) : Array Value := #[.int .u8 (c.A : Int), .int .u8 (c.X : Int), .int .u8 (c.Y : Int), .int .u8 (c.S : Int), .int .u16 (c.PC : Int), .bool c.N, .bool c.V, .bool c.D, .bool c.I, .bool c.Z, .bool c.C, busV o, .string k.nm, .int .i64 k.md, .int .i64 k.sz, .int .i64 k.kd]

/-- F without the block P. -/
def But (F : Nat → Prop) (P : Nat) : Nat → Prop := fun i => F i ∧ i ≠ P

/-- A player at P. -/
structure PlayAt (W : World) (F : Nat → Prop) (P : Nat) (o : Option Nat) (k : OpK) (s : St) : Prop where
  box : BoxN W P 63 (playCells s.c o k)
  bus : BusO W (But F P) o s.b
  own : F P
  ok : s.c.ok

/-- A player at P in the world W, behind what was done since w; not more cycles than N. -/
structure Play (F : Nat → Prop) (w W : World) (P : Nat) (o : Option Nat) (k : OpK) (s : St) (N : Nat) : Prop where
  pl : PlayAt W F P o k s
  turn : Turn F w W
  new : ∀ i, w.heap.size ≤ i → F i
  len : s.b.log.length ≤ N

theorem Turn.less {F G : Nat → Prop} {a b : World} (h : Turn F a b) (hs : ∀ i, i < a.heap.size → F i → G i) : Turn G a b := h.mono hs

theorem BusO.widen {w : World} {F G : Nat → Prop} {o : Option Nat} {b : BusN} (h : BusO w F o b) (hs : ∀ i, i < w.heap.size → F i → G i) : BusO w G o b := by
  rcases o with _ | B
  · exact h
  · exact ⟨h.1.less hs, h.2⟩

theorem Play.start {F : Nat → Prop} {w : World} {P : Nat} {o : Option Nat} {k : OpK} {s : St} {N : Nat} (h : PlayAt w F P o k s) (hF : ∀ i, w.heap.size ≤ i → F i) (hl : s.b.log.length ≤ N) : Play F w w P o k s N :=
  ⟨h, Turn.refl _ _, hF, hl⟩

theorem Play.hF {F : Nat → Prop} {w W : World} {P : Nat} {o : Option Nat} {k : OpK} {s : St} {N : Nat} (p : Play F w W P o k s N) : ∀ i, W.heap.size ≤ i → F i := fun i hi => p.new i (Nat.le_trans p.turn.size hi)

theorem Play.hB {F : Nat → Prop} {w W : World} {P : Nat} {o : Option Nat} {k : OpK} {s : St} {N : Nat} (p : Play F w W P o k s N) : ∀ i, W.heap.size ≤ i → But F P i := fun i hi => ⟨p.hF i hi, by have := p.pl.box.lt; omega⟩

theorem Play.below {F : Nat → Prop} {w W W' : World} {P : Nat} {o : Option Nat} {k : OpK} {s : St} {N : Nat} (p : Play F w W P o k s N) (h : Below W.heap.size W W') : Play F w W' P o k s N :=
  ⟨⟨p.pl.box.below h, p.pl.bus.below h, p.pl.own, p.pl.ok⟩, p.turn.trans (Turn.of_below h), p.new, p.len⟩

theorem Play.drew {F : Nat → Prop} {w W : World} {P : Nat} {o : Option Nat} {k : OpK} {s : St} {N : Nat} (p : Play F w W P o k s N) : Play F w W.drew P o k s N := p.below (Below.refl _ _).drew

theorem Play.mono {F : Nat → Prop} {w W : World} {P : Nat} {o : Option Nat} {k : OpK} {s : St} {N M : Nat} (p : Play F w W P o k s N) (h : N ≤ M) : Play F w W P o k s M := ⟨p.pl, p.turn, p.new, Nat.le_trans p.len h⟩

/-- Behind a call that had the player. -/
theorem Play.call {F : Nat → Prop} {w W W' : World} {P : Nat} {o : Option Nat} {k : OpK} {s s' : St} {N M : Nat} (p : Play F w W P o k s N) (q : Play F W W' P o k s' M) : Play F w W' P o k s' M :=
  ⟨q.pl, p.turn.trans q.turn, p.new, q.len⟩

/-- A store into the player's own box. -/
theorem Play.store {F : Nat → Prop} {w W : World} {P : Nat} {o : Option Nat} {k : OpK} {s : St} {N : Nat} (p : Play F w W P o k s N) (i : Nat) (v : Value) (c' : CpuN) (hc : (playCells s.c o k).setIfInBounds i v = playCells c' o k) (ok : c'.ok) : Play F w (W.setCell ⟨P, i, none⟩ v) P o k ⟨c', s.b⟩ N := by
  refine ⟨⟨?_, p.pl.bus.set v (fun h => h.2 rfl), p.pl.own, ok⟩, p.turn.trans (Turn.set _ _ _ _ p.pl.own), p.new, p.len⟩
  have := p.pl.box.set i v
  rw [hc] at this
  exact this

theorem Play.setS {F : Nat → Prop} {w W : World} {P : Nat} {o : Option Nat} {k : OpK} {s : St} {N : Nat} (p : Play F w W P o k s N) (v : Int) (x : Nat) (hv : v = (x : Int)) (hx : x < 256) {s' : St} (hs : (⟨{ s.c with S := x }, s.b⟩ : St) = s') : Play F w (W.setCell ⟨P, 3, none⟩ (.int .u8 v)) P o k s' N := by
  subst hv
  subst hs
  exact p.store 3 _ { s.c with S := x } rfl ⟨p.pl.ok.1, p.pl.ok.2.1, p.pl.ok.2.2.1, hx, p.pl.ok.2.2.2.2⟩

theorem Play.setPC {F : Nat → Prop} {w W : World} {P : Nat} {o : Option Nat} {k : OpK} {s : St} {N : Nat} (p : Play F w W P o k s N) (v : Int) (x : Nat) (hv : v = (x : Int)) (hx : x < 65536) {s' : St} (hs : (⟨{ s.c with PC := x }, s.b⟩ : St) = s') : Play F w (W.setCell ⟨P, 4, none⟩ (.int .u16 v)) P o k s' N := by
  subst hv
  subst hs
  exact p.store 4 _ { s.c with PC := x } rfl ⟨p.pl.ok.1, p.pl.ok.2.1, p.pl.ok.2.2.1, p.pl.ok.2.2.2.1, hx⟩

theorem Play.flag {F : Nat → Prop} {w W : World} {P : Nat} {o : Option Nat} {k : OpK} {s : St} {N : Nat} (p : Play F w W P o k s N) (i : Nat) (x : Bool) (c' : CpuN) (hc : (playCells s.c o k).setIfInBounds i (.bool x) = playCells c' o k) (h1 : c'.A = s.c.A) (h2 : c'.X = s.c.X) (h3 : c'.Y = s.c.Y) (h4 : c'.S = s.c.S) (h5 : c'.PC = s.c.PC) : Play F w (W.setCell ⟨P, i, none⟩ (.bool x)) P o k ⟨c', s.b⟩ N :=
  p.store i _ c' hc (by have := p.pl.ok; unfold CpuN.ok at this ⊢; rw [h1, h2, h3, h4, h5]; exact this)

/-- Six flags stored. -/
theorem Play.flags {F : Nat → Prop} {w W : World} {P : Nat} {o : Option Nat} {k : OpK} {s : St} {N : Nat} (p : Play F w W P o k s N) (n v d i z c : Bool) {s' : St} (hs : (⟨{ s.c with N := n, V := v, D := d, I := i, Z := z, C := c }, s.b⟩ : St) = s') :
    Play F w (((((((W.setCell ⟨P, 5, none⟩ (.bool n)).setCell ⟨P, 6, none⟩ (.bool v)).setCell ⟨P, 7, none⟩ (.bool d)).setCell ⟨P, 8, none⟩ (.bool i)).setCell ⟨P, 9, none⟩ (.bool z)).setCell ⟨P, 10, none⟩ (.bool c))) P o k s' N := by
  subst hs
  exact (((((p.flag 5 n { s.c with N := n } rfl rfl rfl rfl rfl rfl).flag 6 v { s.c with N := n, V := v } rfl rfl rfl rfl rfl rfl).flag 7 d { s.c with N := n, V := v, D := d } rfl rfl rfl rfl rfl rfl).flag 8 i { s.c with N := n, V := v, D := d, I := i } rfl rfl rfl rfl rfl rfl).flag 9 z { s.c with N := n, V := v, D := d, I := i, Z := z } rfl rfl rfl rfl rfl rfl).flag 10 c _ rfl rfl rfl rfl rfl rfl

/-- A player's cells. -/
theorem Play.cells {F : Nat → Prop} {w W : World} {P : Nat} {o : Option Nat} {k : OpK} {s : St} {N : Nat} (p : Play F w W P o k s N) :
    W.cell? ⟨P, 0, none⟩ = some (.int .u8 (s.c.A : Int)) ∧ W.cell? ⟨P, 1, none⟩ = some (.int .u8 (s.c.X : Int)) ∧ W.cell? ⟨P, 2, none⟩ = some (.int .u8 (s.c.Y : Int)) ∧ W.cell? ⟨P, 3, none⟩ = some (.int .u8 (s.c.S : Int)) ∧ W.cell? ⟨P, 4, none⟩ = some (.int .u16 (s.c.PC : Int)) ∧ W.cell? ⟨P, 5, none⟩ = some (.bool s.c.N) ∧ W.cell? ⟨P, 6, none⟩ = some (.bool s.c.V) ∧ W.cell? ⟨P, 7, none⟩ = some (.bool s.c.D) ∧ W.cell? ⟨P, 8, none⟩ = some (.bool s.c.I) ∧ W.cell? ⟨P, 9, none⟩ = some (.bool s.c.Z) ∧ W.cell? ⟨P, 10, none⟩ = some (.bool s.c.C) ∧ W.cell? ⟨P, 11, none⟩ = some (busV o) ∧ W.cell? ⟨P, 12, none⟩ = some (.string k.nm) ∧ W.cell? ⟨P, 13, none⟩ = some (.int .i64 k.md) ∧ W.cell? ⟨P, 15, none⟩ = some (.int .i64 k.kd) ∧ ∀ i, W.frozen? ⟨P, i, none⟩ = false :=
  have h := p.pl.box
  ⟨h.cell 0 _ rfl, h.cell 1 _ rfl, h.cell 2 _ rfl, h.cell 3 _ rfl, h.cell 4 _ rfl, h.cell 5 _ rfl, h.cell 6 _ rfl, h.cell 7 _ rfl, h.cell 8 _ rfl, h.cell 9 _ rfl, h.cell 10 _ rfl, h.cell 11 _ rfl, h.cell 12 _ rfl, h.cell 13 _ rfl, h.cell 15 _ rfl, h.frozen⟩

theorem Play.byte {F : Nat → Prop} {w W : World} {P : Nat} {o : Option Nat} {k : OpK} {s : St} {N : Nat} (p : Play F w W P o k s N) (a : Nat) : s.b.get a < 256 := p.pl.bus.byte a

theorem Play.read {F : Nat → Prop} {w W : World} {P : Nat} {o : Option Nat} {k : OpK} {s : St} {N : Nat} (p : Play F w W P o k s N) (x : Int) (a : Nat) (hx : x = (a : Int)) (ha : a < 65536) (hN : N ≤ 90) {z : Nat} {s' : St} (hz : s.b.get a = z) (hs : (⟨s.c, s.b.rd a⟩ : St) = s') :
    Calls Try.prog (readK o) #[busR o, .int .u16 x] W fun e w' => e = .returned (.int .u8 (z : Int)) ∧ Play F w w' P o k s' (N + 1) := by
  subst hx
  subst hz
  subst hs
  refine (bread_any (But F P) o s.b a ha (by have := p.len; omega) W p.hB p.pl.bus).mono ?_
  rintro e w' ⟨rfl, hb, ht⟩
  exact ⟨rfl, ⟨p.pl.box.turn ht (fun h => h.2 rfl), hb, p.pl.own, p.pl.ok⟩, p.turn.trans (ht.less (fun _ _ h => h.1)), p.new, by have := p.len; simp [BusN.rd]; omega⟩

theorem Play.write {F : Nat → Prop} {w W : World} {P : Nat} {o : Option Nat} {k : OpK} {s : St} {N : Nat} (p : Play F w W P o k s N) (x y : Int) (a d : Nat) (hx : x = (a : Int)) (hy : y = (d : Int)) (ha : a < 65536) (hd : d < 256) (hN : N ≤ 90) {s' : St} (hs : (⟨s.c, s.b.put a d⟩ : St) = s') :
    Calls Try.prog (writeK o) #[busR o, .int .u16 x, .int .u8 y] W fun e w' => e = .returned (.tuple #[]) ∧ Play F w w' P o k s' (N + 1) := by
  subst hx
  subst hy
  subst hs
  refine (bwrite_any (But F P) o s.b a d ha hd (by have := p.len; omega) W p.hB p.pl.bus).mono ?_
  rintro e w' ⟨rfl, hb, ht⟩
  exact ⟨rfl, ⟨p.pl.box.turn ht (fun h => h.2 rfl), hb, p.pl.own, p.pl.ok⟩, p.turn.trans (ht.less (fun _ _ h => h.1)), p.new, by have := p.len; simp [BusN.put]; omega⟩

theorem methR : (∀ w : World, (method 234 79 (.agg #[]) "loop.example/g00693/impl.read").run Try.prog w = .ok (90, .agg #[]) w) ∧ (∀ (B : Nat) (w : World), (method 234 80 (.pointer (some ⟨B, 0, none⟩)) "loop.example/g00693/impl.read").run Try.prog w = .ok (92, .pointer (some ⟨B, 0, none⟩)) w) :=
  ⟨fun _ => by kernel_rfl, fun _ _ => by kernel_rfl⟩

theorem methW : (∀ w : World, (method 234 79 (.agg #[]) "loop.example/g00693/impl.write").run Try.prog w = .ok (91, .agg #[]) w) ∧ (∀ (B : Nat) (w : World), (method 234 80 (.pointer (some ⟨B, 0, none⟩)) "loop.example/g00693/impl.write").run Try.prog w = .ok (93, .pointer (some ⟨B, 0, none⟩)) w) :=
  ⟨fun _ => by kernel_rfl, fun _ _ => by kernel_rfl⟩

theorem w16 (n : Int) : IntKind.u16.wrap n = n % 65536 := by simp [IntKind.wrap, IntKind.bits, IntKind.signed]

theorem hi8 {x : Nat} (hx : x < 65536) : x &&& 65280 = x / 256 * 256 := by
  have e1 : (65280 : Nat) = (2 ^ 8 - 1) * 2 ^ 8 := rfl
  have e2 : x / 256 * 256 = (x / 2 ^ 8) * 2 ^ 8 := rfl
  rw [e1, e2]
  apply Nat.eq_of_testBit_eq
  intro i
  rw [Nat.testBit_and, Nat.testBit_mul_two_pow, Nat.testBit_mul_two_pow, Nat.testBit_two_pow_sub_one, Nat.testBit_div_two_pow]
  by_cases h : 8 ≤ i
  · by_cases h2 : i < 16
    · have : i - 8 < 8 := by omega
      simp [h, this, Nat.sub_add_cancel h]
    · have : x.testBit i = false := Nat.testBit_lt_two_pow (Nat.lt_of_lt_of_le hx (by have := Nat.pow_le_pow_right (n := 2) (by omega) (show 16 ≤ i by omega); simpa using this))
      simp [this, Nat.sub_add_cancel h]
  · simp [h]

theorem or8 {x y : Nat} : x / 256 * 256 ||| y % 256 = x / 256 * 256 + y % 256 := by
  have : 2 ^ 8 * (x / 256) + y % 256 = 2 ^ 8 * (x / 256) ||| y % 256 := Nat.two_pow_add_eq_or_of_lt (by omega) _
  rw [show x / 256 * 256 = 2 ^ 8 * (x / 256) by omega]
  exact this.symm

theorem bvN {x : Nat} (hx : x < 65536) : (BitVec.ofInt 16 (x : Int)).toNat = x := by rw [BitVec.toNat_ofInt]; omega

theorem andHi {x : Nat} (hx : x < 65536) : bits .and .u16 (x : Int) 65280 = ((x / 256 * 256 : Nat) : Int) := by
  have e2 : (BitVec.ofInt 16 (65280 : Int)).toNat = 65280 := rfl
  have key : (BitVec.ofInt 16 (x : Int) &&& BitVec.ofInt 16 65280).toNat = x / 256 * 256 := by rw [BitVec.toNat_and, bvN hx, e2, hi8 hx]
  show IntKind.u16.wrap ((BitVec.ofInt 16 (x : Int) &&& BitVec.ofInt 16 65280).toNat : Nat) = _
  rw [key, w16]
  omega

theorem andLo {x : Nat} (hx : x < 65536) : bits .and .u16 (x : Int) 255 = ((x % 256 : Nat) : Int) := by
  have e2 : (BitVec.ofInt 16 (255 : Int)).toNat = 2 ^ 8 - 1 := rfl
  have key : (BitVec.ofInt 16 (x : Int) &&& BitVec.ofInt 16 255).toNat = x % 256 := by rw [BitVec.toNat_and, bvN hx, e2, Nat.and_two_pow_sub_one_eq_mod]
  show IntKind.u16.wrap ((BitVec.ofInt 16 (x : Int) &&& BitVec.ofInt 16 255).toNat : Nat) = _
  rw [key, w16]
  omega

theorem orIn {x y : Nat} (hx : x < 65536) : bits .or .u16 ((x / 256 * 256 : Nat) : Int) ((y % 256 : Nat) : Int) = ((inPage x y : Nat) : Int) := by
  have key : (BitVec.ofInt 16 ((x / 256 * 256 : Nat) : Int) ||| BitVec.ofInt 16 ((y % 256 : Nat) : Int)).toNat = inPage x y := by rw [BitVec.toNat_or, bvN (by omega), bvN (by omega), or8]; rfl
  show IntKind.u16.wrap ((BitVec.ofInt 16 ((x / 256 * 256 : Nat) : Int) ||| BitVec.ofInt 16 ((y % 256 : Nat) : Int)).toNat : Nat) = _
  rw [key, w16]
  unfold inPage
  omega

theorem inPageOf_any (x y : Nat) (hx : x < 65536) (hy : y < 65536) {a : Nat} (ha : inPage x y = a) (w : World) :
    Calls Try.prog 71 #[.int .u16 x, .int .u16 y] w fun e w' => e = .returned (.int .u16 (a : Nat)) ∧ w = w' := by
  have h1 := andHi hx
  have h2 := orIn (y := y) hx
  rw [ha] at h2
  obtain ⟨u, hu⟩ : ∃ r, ((x / 256 * 256 : Nat) : Int) = r := ⟨_, rfl⟩
  rw [hu] at h1 h2
  have h3 := andLo hy
  obtain ⟨v, hv⟩ : ∃ r, ((y % 256 : Nat) : Int) = r := ⟨_, rfl⟩
  rw [hv] at h2 h3
  clear hu hv
  go_enter Try.func71, Try.ntmps71
  go_wp2
  go_ret
  refine ⟨?_, rfl⟩
  first | rfl | exact congrArg (fun v => Ending.returned (Value.int .u16 v)) h2

theorem or_wordP {x y : Nat} (hx : x < 256) (hy : y < 256) : bits .or .u16 ((y : Int) * 256) (x : Int) = ((x + 256 * y : Nat) : Int) := by
  have e1 : (BitVec.ofInt 16 ((y : Int) * 256)).toNat = 2 ^ 8 * y := by rw [BitVec.toNat_ofInt]; omega
  have e2 : (BitVec.ofInt 16 (x : Int)).toNat = x := by rw [BitVec.toNat_ofInt]; omega
  have key : (BitVec.ofInt 16 ((y : Int) * 256) ||| BitVec.ofInt 16 (x : Int)).toNat = 2 ^ 8 * y + x := by
    rw [BitVec.toNat_or, e1, e2, Nat.two_pow_add_eq_or_of_lt (by omega)]
  show IntKind.u16.wrap ((BitVec.ofInt 16 ((y : Int) * 256) ||| BitVec.ofInt 16 (x : Int)).toNat : Nat) = _
  rw [key]
  simp only [IntKind.wrap, IntKind.bits, IntKind.signed]
  simp
  omega

theorem stackAt_any (x : Nat) (hx : x < 256) (w : World) :
    Calls Try.prog 69 #[.int .u8 x] w fun e w' => e = .returned (.int .u16 (stk x : Nat)) ∧ w = w' := by
  have hb : bits .or .u16 256 (x : Int) = ((256 + x : Nat) : Int) := by
    have := or_wordP (x := x) (y := 1) hx (by omega)
    simpa [Nat.add_comm] using this
  go_enter Try.func69, Try.ntmps69
  go_wp2
  go_ret
  refine ⟨?_, rfl⟩
  unfold stk
  rw [Nat.mod_eq_of_lt hx]
  exact congrArg (fun v => Ending.returned (Value.int .u16 v)) (by omega)

theorem wordOf_at (x y : Nat) (hx : x < 256) (hy : y < 256) {a : Nat} (ha : word x y = a) (w : World) :
    Calls Try.prog 72 #[.int .u8 x, .int .u8 y] w fun e w' => e = .returned (.int .u16 (a : Nat)) ∧ w = w' := by
  subst ha
  go_enter Try.func72, Try.ntmps72
  go_wp2
  go_ret
  exact ⟨congrArg (fun v => Ending.returned (Value.int .u16 v)) (or_wordP hx hy), rfl⟩

set_option maxRecDepth 100000 in
theorem Play.idle {F : Nat → Prop} {w W : World} {P : Nat} {o : Option Nat} {k : OpK} {s : St} {N : Nat} (p : Play F w W P o k s N) (hN : N ≤ 88) {s' : St} (hs : s.idle = s') :
    Calls Try.prog 43 #[.pointer (some ⟨P, 0, none⟩)] W fun e w' => e = .returned (.tuple #[]) ∧ Play F w w' P o k s' (N + 1) := by
  obtain ⟨hA, hX, hY, hS, hP⟩ := p.pl.ok
  obtain ⟨hm0, hm1⟩ := methR
  rcases o with _ | B
  · go_enter Try.func43, Try.ntmps43
    obtain ⟨g0, g1, g2, g3, g4, g5, g6, g7, g8, g9, g10, g11, g12, g13, g15, gf⟩ := p.cells
    go_wp2_with fail
    go_still_tail 11, (by kernel_rfl)
    change wpList _ _ _ _ _ W.drew
    have p1 := p.drew
    clear g0 g1 g2 g3 g4 g5 g6 g7 g8 g9 g10 g11 g12 g13 g15 gf
    generalize W.drew = W2 at p1 ⊢
    go_wp2_with fail
    refine (p1.read _ _ rfl hP (by omega) rfl hs).mono ?_
    rintro e w3 ⟨rfl, p4⟩
    clear p1
    go_wp2
    (try simp only [Exit.inBlock, Exit.then])
    first | refine bodyPost_ret (results_none rfl _ _ _) rfl ?_ | refine bodyPost_end (results_none rfl _ _ _) rfl ?_
    refine ⟨rfl, ?_⟩
    exact p4
  · go_enter Try.func43, Try.ntmps43
    obtain ⟨g0, g1, g2, g3, g4, g5, g6, g7, g8, g9, g10, g11, g12, g13, g15, gf⟩ := p.cells
    go_wp2_with fail
    go_still_tail 11, (by kernel_rfl)
    change wpList _ _ _ _ _ W.drew
    have p1 := p.drew
    clear g0 g1 g2 g3 g4 g5 g6 g7 g8 g9 g10 g11 g12 g13 g15 gf
    generalize W.drew = W2 at p1 ⊢
    go_wp2_with fail
    refine (p1.read _ _ rfl hP (by omega) rfl hs).mono ?_
    rintro e w3 ⟨rfl, p4⟩
    clear p1
    go_wp2
    (try simp only [Exit.inBlock, Exit.then])
    first | refine bodyPost_ret (results_none rfl _ _ _) rfl ?_ | refine bodyPost_end (results_none rfl _ _ _) rfl ?_
    refine ⟨rfl, ?_⟩
    exact p4

end Go.Proofs.Ytblchdmemhhcbaa
