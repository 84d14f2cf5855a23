/-
  Contracts over the program: the model's processor of a text (ReadCpu).
-/
import Derived.Test.YtppkcljpfjdlnaaCpuA
import Derived.Test.YtppkcljpfjdlnaaCut
import Derived.StillTailTactics
namespace Go.Proofs.Ytppkcljpfjdlnaa
set_option linter.unusedVariables false
set_option linter.unusedSimpArgs false
open Go.RowKit

theorem rd_neg2 : ∀ (l : List UInt8) (n : Int), 0 ≤ n → rd 16 l n = -1 ∨ (0 ≤ rd 16 l n ∧ rd 16 l n < (n + 1) * 16 ^ l.length)
  | [], n, h => .inr (by simp [rd]; omega)
  | c :: r, n, h => by
    rw [rd]
    split
    · exact .inl rfl
    · rename_i hc
      have h1 := (dig_le (c.toNat : Int)).2
      rcases rd_neg2 r (n * 16 + dig (c.toNat : Int)) (by omega) with ih | ih
      · exact .inl ih
      · refine .inr ⟨ih.1, Int.lt_of_lt_of_le ih.2 ?_⟩
        have hp : (0 : Int) ≤ 16 ^ r.length := Int.pow_nonneg (by omega)
        have e1 : (n * 16 + dig (c.toNat : Int) + 1) * 16 ^ r.length ≤ ((n + 1) * 16) * 16 ^ r.length := Int.mul_le_mul_of_nonneg_right (by omega) hp
        have e2 : ((n + 1) * 16) * 16 ^ r.length = (n + 1) * 16 ^ (c :: r).length := by rw [List.length_cons, Int.pow_succ, Int.mul_assoc, Int.mul_comm 16]
        omega

/-- The five numbers that a text shows. -/
def cpuNum (s : ByteArray) (i : Nat) : Int :=
  match i with
  | 0 => rhex (s.extract 2 4) 2
  | 1 => rhex (s.extract 7 9) 2
  | 2 => rhex (s.extract 12 14) 2
  | 3 => rhex (s.extract 17 19) 2
  | _ => rhex (s.extract 23 27) 4

/-- The processor that a text shows. -/
def cpuCand (s : ByteArray) : CpuN :=
  ⟨(cpuNum s 0).toNat % 256, (cpuNum s 1).toNat % 256, (cpuNum s 2).toNat % 256, (cpuNum s 3).toNat % 256, (cpuNum s 4).toNat % 65536,
    (s.data.toList.getD 28 0) == 78, (s.data.toList.getD 29 0) == 86, (s.data.toList.getD 30 0) == 68, (s.data.toList.getD 31 0) == 73, (s.data.toList.getD 32 0) == 90, (s.data.toList.getD 33 0) == 67⟩

theorem cpuCand_ok (s : ByteArray) : (cpuCand s).ok := by unfold CpuN.ok cpuCand; dsimp only; omega

def readCpu (s : ByteArray) : Option CpuN :=
  if s.size = 34 ∧ 0 ≤ cpuNum s 0 ∧ 0 ≤ cpuNum s 1 ∧ 0 ≤ cpuNum s 2 ∧ 0 ≤ cpuNum s 3 ∧ 0 ≤ cpuNum s 4 ∧ cpuS (cpuCand s) = s then some (cpuCand s) else none

set_option maxRecDepth 100000 in
theorem specReadCpu_len (s : ByteArray) (hs : s.size ≤ 1048576) (h : s.size ≠ 34) (w : World) :
    Calls Try.prog 43 #[.string s] w fun e w' => e = .returned (.tuple #[cpuV cpu0, .bool false]) ∧ Below w.heap.size w w' := by
  have h1 : ((s.size : Int) != 34) = true := by simp; omega
  go_enter Try.func43, Try.ntmps43
  go_wp2
  exact bodyPost_ret (v := .tuple #[cpuV cpu0, .bool false]) (by simp [results, Try.results43, go_sem, cpu0]) rfl ⟨rfl, (Below.refl _ _).alloc (Nat.le_refl _) _⟩

/-- What holds behind the numbers: the list of them, and the answer's box. -/
def ReadAt (w0 W : World) (B R : Nat) (n : Nat → Int) : Prop :=
  BoxN W B 3 #[.int .i64 (n 0), .int .i64 (n 1), .int .i64 (n 2), .int .i64 (n 3), .int .i64 (n 4)] ∧ BoxN W R 39 #[.int .u8 0, .int .u8 0, .int .u8 0, .int .u8 0, .int .u16 0, .bool false, .bool false, .bool false, .bool false, .bool false, .bool false] ∧ Below w0.heap.size w0 W ∧ w0.heap.size ≤ R ∧ R ≠ B ∧ w0.heap.size ≤ B

theorem five_alloc {w : World} {B : Nat} {a0 a1 a2 a3 a4 : Value} (h : w.cell? ⟨B, 0, none⟩ = some a0 ∧ w.cell? ⟨B, 1, none⟩ = some a1 ∧ w.cell? ⟨B, 2, none⟩ = some a2 ∧ w.cell? ⟨B, 3, none⟩ = some a3 ∧ w.cell? ⟨B, 4, none⟩ = some a4 ∧ B < w.heap.size) (o : Obj) :
    (w.alloc o).cell? ⟨B, 0, none⟩ = some a0 ∧ (w.alloc o).cell? ⟨B, 1, none⟩ = some a1 ∧ (w.alloc o).cell? ⟨B, 2, none⟩ = some a2 ∧ (w.alloc o).cell? ⟨B, 3, none⟩ = some a3 ∧ (w.alloc o).cell? ⟨B, 4, none⟩ = some a4 ∧ B < (w.alloc o).heap.size := by
  have hb : Below w.heap.size w (w.alloc o) := (Below.refl _ _).alloc (Nat.le_refl _) _
  obtain ⟨h0, h1, h2, h3, h4, hB⟩ := h
  exact ⟨cellKept hb h0 hB, cellKept hb h1 hB, cellKept hb h2 hB, cellKept hb h3 hB, cellKept hb h4 hB, Nat.lt_of_lt_of_le hB hb.size⟩

theorem five_drew {w : World} {B : Nat} {a0 a1 a2 a3 a4 : Value} (h : w.cell? ⟨B, 0, none⟩ = some a0 ∧ w.cell? ⟨B, 1, none⟩ = some a1 ∧ w.cell? ⟨B, 2, none⟩ = some a2 ∧ w.cell? ⟨B, 3, none⟩ = some a3 ∧ w.cell? ⟨B, 4, none⟩ = some a4 ∧ B < w.heap.size) :
    w.drew.cell? ⟨B, 0, none⟩ = some a0 ∧ w.drew.cell? ⟨B, 1, none⟩ = some a1 ∧ w.drew.cell? ⟨B, 2, none⟩ = some a2 ∧ w.drew.cell? ⟨B, 3, none⟩ = some a3 ∧ w.drew.cell? ⟨B, 4, none⟩ = some a4 ∧ B < w.drew.heap.size := h

set_option maxRecDepth 100000 in
set_option maxHeartbeats 4000000 in
theorem specReadCpu_in (s : ByteArray) (n : Nat → Int) (hn : ∀ k, -9223372036854775808 ≤ n k ∧ n k ≤ 9223372036854775807) (h34 : s.size = 34)
    (C0 : ∀ w, Calls Try.prog 66 #[.string (s.extract 2 4), .int .i64 2] w fun e w' => e = .returned (.int .i64 (n 0)) ∧ w = w')
    (C1 : ∀ w, Calls Try.prog 66 #[.string (s.extract 7 9), .int .i64 2] w fun e w' => e = .returned (.int .i64 (n 1)) ∧ w = w')
    (C2 : ∀ w, Calls Try.prog 66 #[.string (s.extract 12 14), .int .i64 2] w fun e w' => e = .returned (.int .i64 (n 2)) ∧ w = w')
    (C3 : ∀ w, Calls Try.prog 66 #[.string (s.extract 17 19), .int .i64 2] w fun e w' => e = .returned (.int .i64 (n 3)) ∧ w = w')
    (C4 : ∀ w, Calls Try.prog 66 #[.string (s.extract 23 27), .int .i64 4] w fun e w' => e = .returned (.int .i64 (n 4)) ∧ w = w') (HT : ∀ c : CpuN, c.ok → ∀ w, Calls Try.prog 41 #[cpuV c] w fun e w' => e = .returned (.string (cpuS c)) ∧ Below w.heap.size w w') (c : CpuN) (hc : c.ok)
    (e0 : 0 ≤ n 0 → IntKind.u8.wrap (n 0) = (c.A : Int)) (e1 : 0 ≤ n 1 → IntKind.u8.wrap (n 1) = (c.X : Int)) (e2 : 0 ≤ n 2 → IntKind.u8.wrap (n 2) = (c.Y : Int)) (e3 : 0 ≤ n 3 → IntKind.u8.wrap (n 3) = (c.S : Int)) (e4 : 0 ≤ n 4 → IntKind.u16.wrap (n 4) = (c.PC : Int)) (hfl : ∀ (F : ByteArray) (h6 : F.size = 6), s.extract 28 s.size = F → (((F[0]'(by omega)).toNat : Int) == 78) = c.N ∧ (((F[1]'(by omega)).toNat : Int) == 86) = c.V ∧ (((F[2]'(by omega)).toNat : Int) == 68) = c.D ∧ (((F[3]'(by omega)).toNat : Int) == 73) = c.I ∧ (((F[4]'(by omega)).toNat : Int) == 90) = c.Z ∧ (((F[5]'(by omega)).toNat : Int) == 67) = c.C) (r : CpuN) (okb : Bool) (hr1 : cpuS c = s → r = c ∧ okb = true) (hr2 : cpuS c ≠ s → r = cpu0 ∧ okb = false) (w : World) :
    Calls Try.prog 43 #[.string s] w fun e w' => ((∃ k, k < 5 ∧ n k < 0) ∧ e = .returned (.tuple #[cpuV cpu0, .bool false]) ∨ (∀ k, k < 5 → 0 ≤ n k) ∧ e = .returned (.tuple #[cpuV r, .bool okb])) ∧ Below w.heap.size w w' := by
  have h1 : ((s.size : Int) != 34) = false := by simp; omega
  have i1 : (0 : Int) ≤ 2 ∧ (2 : Int) ≤ 4 ∧ (4 : Int) ≤ (s.size : Int) := by omega
  have i2 : (0 : Int) ≤ 7 ∧ (7 : Int) ≤ 9 ∧ (9 : Int) ≤ (s.size : Int) := by omega
  have i3 : (0 : Int) ≤ 12 ∧ (12 : Int) ≤ 14 ∧ (14 : Int) ≤ (s.size : Int) := by omega
  have i4 : (0 : Int) ≤ 17 ∧ (17 : Int) ≤ 19 ∧ (19 : Int) ≤ (s.size : Int) := by omega
  have i5 : (0 : Int) ≤ 23 ∧ (23 : Int) ≤ 27 ∧ (27 : Int) ≤ (s.size : Int) := by omega
  have H34 := Lib.hid h34
  have HR1 := Lib.hid hr1
  have HFL := Lib.hid hfl
  have HR2 := Lib.hid hr2
  have E0 := Lib.hid e0
  have E1 := Lib.hid e1
  have E2 := Lib.hid e2
  have E3 := Lib.hid e3
  have E4 := Lib.hid e4
  clear h34 hfl hr1 hr2 e0 e1 e2 e3 e4
  go_enter Try.func43, Try.ntmps43
  go_wp2_with fail
  go_region_held3 (fun _ => True) (trivial)
    (first | (go_at_call 66; with_reducible refine (C0 _).mono ?_; rintro e w' ⟨rfl, rfl⟩) | (go_at_call 66; with_reducible refine (C1 _).mono ?_; rintro e w' ⟨rfl, rfl⟩) | (go_at_call 66; with_reducible refine (C2 _).mono ?_; rintro e w' ⟨rfl, rfl⟩) | (go_at_call 66; with_reducible refine (C3 _).mono ?_; rintro e w' ⟨rfl, rfl⟩) | (go_at_call 66; with_reducible refine (C4 _).mono ?_; rintro e w' ⟨rfl, rfl⟩))
  have hR : ReadAt w ((w.alloc (.cells #[.int .u8 0, .int .u8 0, .int .u8 0, .int .u8 0, .int .u16 0, .bool false, .bool false, .bool false, .bool false, .bool false, .bool false] 39)).alloc (.cells #[.int .i64 (n 0), .int .i64 (n 1), .int .i64 (n 2), .int .i64 (n 3), .int .i64 (n 4)] 3)).drew (w.heap.size + 1) w.heap.size n := by
    refine ⟨?_, ?_, (((Below.refl _ _).alloc (Nat.le_refl _) _).alloc (by simp) _).drew, Nat.le_refl _, by omega, by omega⟩
    · have := BoxN.new (w.alloc (.cells #[.int .u8 0, .int .u8 0, .int .u8 0, .int .u8 0, .int .u16 0, .bool false, .bool false, .bool false, .bool false, .bool false, .bool false] 39)) 3 #[.int .i64 (n 0), .int .i64 (n 1), .int .i64 (n 2), .int .i64 (n 3), .int .i64 (n 4)]
      rw [World.size_alloc] at this
      exact this
    · exact BoxN.drew ((BoxN.new w 39 _).below ((Below.refl _ _).alloc (Nat.le_refl _) _))
  generalize ((w.alloc (.cells #[.int .u8 0, .int .u8 0, .int .u8 0, .int .u8 0, .int .u16 0, .bool false, .bool false, .bool false, .bool false, .bool false, .bool false] 39)).alloc (.cells #[.int .i64 (n 0), .int .i64 (n 1), .int .i64 (n 2), .int .i64 (n 3), .int .i64 (n 4)] 3)).drew = W at hR ⊢
  obtain ⟨n0, hn0⟩ : ∃ x, n 0 = x := ⟨_, rfl⟩
  obtain ⟨n1, hn1⟩ : ∃ x, n 1 = x := ⟨_, rfl⟩
  obtain ⟨n2, hn2⟩ : ∃ x, n 2 = x := ⟨_, rfl⟩
  obtain ⟨n3, hn3⟩ : ∃ x, n 3 = x := ⟨_, rfl⟩
  obtain ⟨n4, hn4⟩ : ∃ x, n 4 = x := ⟨_, rfl⟩
  obtain ⟨hL, hB, hW, hwR, hRB, hwB⟩ := hR
  rw [hn0, hn1, hn2, hn3, hn4] at hL ⊢
  have c0 := hL.cell 0 _ rfl
  have c1 := hL.cell 1 _ rfl
  have c2 := hL.cell 2 _ rfl
  have c3 := hL.cell 3 _ rfl
  have c4 := hL.cell 4 _ rfl
  have HN := Lib.hid (And.intro hn0 (And.intro hn1 (And.intro hn2 (And.intro hn3 hn4))))
  clear C0 C1 C2 C3 C4 i1 i2 i3 i4 i5 hn0 hn1 hn2 hn3 hn4
  have hf := fun k => hB.frozen k
  have q0 := hB.cell 0 _ rfl
  have q1 := hB.cell 1 _ rfl
  have q2 := hB.cell 2 _ rfl
  have q3 := hB.cell 3 _ rfl
  have q4 := hB.cell 4 _ rfl
  have q5 := hB.cell 5 _ rfl
  have q6 := hB.cell 6 _ rfl
  have q7 := hB.cell 7 _ rfl
  have q8 := hB.cell 8 _ rfl
  have q9 := hB.cell 9 _ rfl
  have q10 := hB.cell 10 _ rfl
  go_wp2
  go_loopw [5] (fun i wr => ∃ j : Nat, j ≤ 5 ∧ i = .int .i64 j ∧ wr = W ∧ Hid (∀ k, k < j → 0 ≤ n k)) (fun i _ => 5 - (intOf i).toNat)
  case atStart => exact ⟨0, by omega, rfl, rfl, Lib.hid (fun k hk => by omega)⟩
  case round =>
    obtain ⟨j, hj, rfl, rfl, HP⟩ := hrel
    have hj5 : j = 0 ∨ j = 1 ∨ j = 2 ∨ j = 3 ∨ j = 4 ∨ j = 5 := by omega
    rcases hj5 with rfl | rfl | rfl | rfl | rfl | rfl
    · by_cases hneg : n0 < 0
      · have HG := Lib.hid (show ∃ k, k < 5 ∧ n k < 0 from ⟨0, by omega, by rw [HN.out.1]; exact hneg⟩)
        go_wp2
        refine bodyPost_ret (v := .tuple #[cpuV cpu0, .bool false]) (by simp [results, Try.results43, go_sem, cpu0, q0, q1, q2, q3, q4, q5, q6, q7, q8, q9, q10]) rfl ⟨.inl ⟨HG.out, rfl⟩, ?_⟩
        repeat (any_goals (first | (with_reducible exact hW) | (with_reducible refine Below.setCell ?_ ?_ _)))
        all_goals (first | (with_reducible exact Nat.le_refl _) | (simp; done) | (simp; omega))
      · have HP2 := Lib.hid (show ∀ k, k < 1 → 0 ≤ n k from fun k hk => by
          by_cases ek : k = 0
          · rw [ek, HN.out.1]; omega
          · exact HP.out k (by omega))
        go_wp2
        go_roundw
        case rel => exact ⟨1, by omega, by simp, trivial, HP2⟩
        case measure => simp [intOf]
    · by_cases hneg : n1 < 0
      · have HG := Lib.hid (show ∃ k, k < 5 ∧ n k < 0 from ⟨1, by omega, by rw [HN.out.2.1]; exact hneg⟩)
        go_wp2
        refine bodyPost_ret (v := .tuple #[cpuV cpu0, .bool false]) (by simp [results, Try.results43, go_sem, cpu0, q0, q1, q2, q3, q4, q5, q6, q7, q8, q9, q10]) rfl ⟨.inl ⟨HG.out, rfl⟩, ?_⟩
        repeat (any_goals (first | (with_reducible exact hW) | (with_reducible refine Below.setCell ?_ ?_ _)))
        all_goals (first | (with_reducible exact Nat.le_refl _) | (simp; done) | (simp; omega))
      · have HP2 := Lib.hid (show ∀ k, k < 2 → 0 ≤ n k from fun k hk => by
          by_cases ek : k = 1
          · rw [ek, HN.out.2.1]; omega
          · exact HP.out k (by omega))
        go_wp2
        go_roundw
        case rel => exact ⟨2, by omega, by simp, trivial, HP2⟩
        case measure => simp [intOf]
    · by_cases hneg : n2 < 0
      · have HG := Lib.hid (show ∃ k, k < 5 ∧ n k < 0 from ⟨2, by omega, by rw [HN.out.2.2.1]; exact hneg⟩)
        go_wp2
        refine bodyPost_ret (v := .tuple #[cpuV cpu0, .bool false]) (by simp [results, Try.results43, go_sem, cpu0, q0, q1, q2, q3, q4, q5, q6, q7, q8, q9, q10]) rfl ⟨.inl ⟨HG.out, rfl⟩, ?_⟩
        repeat (any_goals (first | (with_reducible exact hW) | (with_reducible refine Below.setCell ?_ ?_ _)))
        all_goals (first | (with_reducible exact Nat.le_refl _) | (simp; done) | (simp; omega))
      · have HP2 := Lib.hid (show ∀ k, k < 3 → 0 ≤ n k from fun k hk => by
          by_cases ek : k = 2
          · rw [ek, HN.out.2.2.1]; omega
          · exact HP.out k (by omega))
        go_wp2
        go_roundw
        case rel => exact ⟨3, by omega, by simp, trivial, HP2⟩
        case measure => simp [intOf]
    · by_cases hneg : n3 < 0
      · have HG := Lib.hid (show ∃ k, k < 5 ∧ n k < 0 from ⟨3, by omega, by rw [HN.out.2.2.2.1]; exact hneg⟩)
        go_wp2
        refine bodyPost_ret (v := .tuple #[cpuV cpu0, .bool false]) (by simp [results, Try.results43, go_sem, cpu0, q0, q1, q2, q3, q4, q5, q6, q7, q8, q9, q10]) rfl ⟨.inl ⟨HG.out, rfl⟩, ?_⟩
        repeat (any_goals (first | (with_reducible exact hW) | (with_reducible refine Below.setCell ?_ ?_ _)))
        all_goals (first | (with_reducible exact Nat.le_refl _) | (simp; done) | (simp; omega))
      · have HP2 := Lib.hid (show ∀ k, k < 4 → 0 ≤ n k from fun k hk => by
          by_cases ek : k = 3
          · rw [ek, HN.out.2.2.2.1]; omega
          · exact HP.out k (by omega))
        go_wp2
        go_roundw
        case rel => exact ⟨4, by omega, by simp, trivial, HP2⟩
        case measure => simp [intOf]
    · by_cases hneg : n4 < 0
      · have HG := Lib.hid (show ∃ k, k < 5 ∧ n k < 0 from ⟨4, by omega, by rw [HN.out.2.2.2.2]; exact hneg⟩)
        go_wp2
        refine bodyPost_ret (v := .tuple #[cpuV cpu0, .bool false]) (by simp [results, Try.results43, go_sem, cpu0, q0, q1, q2, q3, q4, q5, q6, q7, q8, q9, q10]) rfl ⟨.inl ⟨HG.out, rfl⟩, ?_⟩
        repeat (any_goals (first | (with_reducible exact hW) | (with_reducible refine Below.setCell ?_ ?_ _)))
        all_goals (first | (with_reducible exact Nat.le_refl _) | (simp; done) | (simp; omega))
      · have HP2 := Lib.hid (show ∀ k, k < 5 → 0 ≤ n k from fun k hk => by
          by_cases ek : k = 4
          · rw [ek, HN.out.2.2.2.2]; omega
          · exact HP.out k (by omega))
        go_wp2
        go_roundw
        case rel => exact ⟨5, by omega, by simp, trivial, HP2⟩
        case measure => simp [intOf]
    · have HA := Lib.hid HP.out
      have hx := HN.out
      have p0 : 0 ≤ n0 := by rw [← hx.1]; exact HP.out 0 (by omega)
      have p1 : 0 ≤ n1 := by rw [← hx.2.1]; exact HP.out 1 (by omega)
      have p2 : 0 ≤ n2 := by rw [← hx.2.2.1]; exact HP.out 2 (by omega)
      have p3 : 0 ≤ n3 := by rw [← hx.2.2.2.1]; exact HP.out 3 (by omega)
      have p4 : 0 ≤ n4 := by rw [← hx.2.2.2.2]; exact HP.out 4 (by omega)
      have e0 := E0.out
      have e1 := E1.out
      have e2 := E2.out
      have e3 := E3.out
      have e4 := E4.out
      rw [hx.1] at e0
      rw [hx.2.1] at e1
      rw [hx.2.2.1] at e2
      rw [hx.2.2.2.1] at e3
      rw [hx.2.2.2.2] at e4
      have e0 := e0 p0
      have e1 := e1 p1
      have e2 := e2 p2
      have e3 := e3 p3
      have e4 := e4 p4
      clear hx
      have i28 : (0 : Int) ≤ 28 ∧ (28 : Int) ≤ (s.size : Int) := by have := H34.out; omega
      obtain ⟨F, hF⟩ : ∃ F, s.extract 28 s.size = F := ⟨_, rfl⟩
      have hFs : F.size = 6 := by rw [← hF, ByteArray.size_extract]; have := H34.out; omega
      have HF := Lib.hid hF
      go_wp2_with fail
      clear hF
      have S00 : wr.cell? ⟨w.heap.size + 1, 0, none⟩ = some (.int .i64 n0) ∧ wr.cell? ⟨w.heap.size + 1, 1, none⟩ = some (.int .i64 n1) ∧ wr.cell? ⟨w.heap.size + 1, 2, none⟩ = some (.int .i64 n2) ∧ wr.cell? ⟨w.heap.size + 1, 3, none⟩ = some (.int .i64 n3) ∧ wr.cell? ⟨w.heap.size + 1, 4, none⟩ = some (.int .i64 n4) ∧ w.heap.size + 1 < wr.heap.size := ⟨c0, c1, c2, c3, c4, hL.lt⟩
      have S0 : wr.drew.cell? ⟨w.heap.size + 1, 0, none⟩ = some (.int .i64 n0) ∧ wr.drew.cell? ⟨w.heap.size + 1, 1, none⟩ = some (.int .i64 n1) ∧ wr.drew.cell? ⟨w.heap.size + 1, 2, none⟩ = some (.int .i64 n2) ∧ wr.drew.cell? ⟨w.heap.size + 1, 3, none⟩ = some (.int .i64 n3) ∧ wr.drew.cell? ⟨w.heap.size + 1, 4, none⟩ = some (.int .i64 n4) ∧ w.heap.size + 1 < wr.drew.heap.size := ⟨c0, c1, c2, c3, c4, hL.lt⟩
      go_region_held3 (fun w' => w'.cell? ⟨w.heap.size + 1, 0, none⟩ = some (.int .i64 n0) ∧ w'.cell? ⟨w.heap.size + 1, 1, none⟩ = some (.int .i64 n1) ∧ w'.cell? ⟨w.heap.size + 1, 2, none⟩ = some (.int .i64 n2) ∧ w'.cell? ⟨w.heap.size + 1, 3, none⟩ = some (.int .i64 n3) ∧ w'.cell? ⟨w.heap.size + 1, 4, none⟩ = some (.int .i64 n4) ∧ w.heap.size + 1 < w'.heap.size)
        (((try dsimp only); (repeat (first | (with_reducible exact S00) | (with_reducible exact S0) | (with_reducible refine five_alloc ?_ _) | (with_reducible refine five_drew ?_))))) (fail)
      have d2 : Below wr.heap.size wr (wr.alloc (.cells #[.int .u8 (c.A : Int), .int .u8 (c.X : Int), .int .u8 (c.Y : Int), .int .u8 (c.S : Int), .int .u16 (c.PC : Int), .bool false, .bool false, .bool false, .bool false, .bool false, .bool false] 39)).drew := ((Below.refl _ _).alloc (Nat.le_refl _) _).drew
      have pk : BoxN (wr.alloc (.cells #[.int .u8 (c.A : Int), .int .u8 (c.X : Int), .int .u8 (c.Y : Int), .int .u8 (c.S : Int), .int .u16 (c.PC : Int), .bool false, .bool false, .bool false, .bool false, .bool false, .bool false] 39)).drew wr.heap.size 39 #[.int .u8 (c.A : Int), .int .u8 (c.X : Int), .int .u8 (c.Y : Int), .int .u8 (c.S : Int), .int .u16 (c.PC : Int), .bool false, .bool false, .bool false, .bool false, .bool false, .bool false] := BoxN.drew (BoxN.new _ _ _)
      have hB2 := hB.below d2
      have hW2 := bstep hW d2
      have hne : w.heap.size ≠ wr.heap.size := Nat.ne_of_lt hB.lt
      have hKK : w.heap.size ≤ wr.heap.size := hW.size
      clear S0 S00 c0 c1 c2 c3 c4 q0 q1 q2 q3 q4 q5 q6 q7 q8 q9 q10 hf d2
      generalize (wr.alloc (.cells #[.int .u8 (c.A : Int), .int .u8 (c.X : Int), .int .u8 (c.Y : Int), .int .u8 (c.S : Int), .int .u16 (c.PC : Int), .bool false, .bool false, .bool false, .bool false, .bool false, .bool false] 39)).drew = W2 at pk hB2 hW2 ⊢
      generalize wr.heap.size = K at pk hne hKK ⊢
      have j0 : (0 : Int) ≤ 0 ∧ (0 : Int) < (F.size : Int) := by omega
      have j1 : (0 : Int) ≤ 1 ∧ (1 : Int) < (F.size : Int) := by omega
      have j2 : (0 : Int) ≤ 2 ∧ (2 : Int) < (F.size : Int) := by omega
      have j3 : (0 : Int) ≤ 3 ∧ (3 : Int) < (F.size : Int) := by omega
      have j4 : (0 : Int) ≤ 4 ∧ (4 : Int) < (F.size : Int) := by omega
      have j5 : (0 : Int) ≤ 5 ∧ (5 : Int) < (F.size : Int) := by omega
      have k0 := pk.cell 0 _ rfl
      have k1 := pk.cell 1 _ rfl
      have k2 := pk.cell 2 _ rfl
      have k3 := pk.cell 3 _ rfl
      have k4 := pk.cell 4 _ rfl
      have k5 := pk.cell 5 _ rfl
      have k6 := pk.cell 6 _ rfl
      have k7 := pk.cell 7 _ rfl
      have k8 := pk.cell 8 _ rfl
      have k9 := pk.cell 9 _ rfl
      have k10 := pk.cell 10 _ rfl
      have kf := fun k => pk.frozen k
      obtain ⟨v0, v1, v2, v3, v4, v5⟩ := HFL.out F hFs HF.out
      go_wp2_with fail
      go_still_tail 20, (by kernel_rfl)
      change wpList _ _ _ _ _ W2.drew
      have pk' : BoxN W2.drew K 39 #[.int .u8 (c.A : Int), .int .u8 (c.X : Int), .int .u8 (c.Y : Int), .int .u8 (c.S : Int), .int .u16 (c.PC : Int), .bool false, .bool false, .bool false, .bool false, .bool false, .bool false] := pk
      have hB2' := hB2.drew
      have hW2' := hW2.drew
      clear pk hB2 hW2 kf k0 k1 k2 k3 k4 k5 k6 k7 k8 k9 k10
      generalize W2.drew = W3 at pk' hB2' hW2' ⊢
      have pk3 : BoxN ((((((W3.setCell ⟨K, 5, none⟩ (.bool c.N)).setCell ⟨K, 6, none⟩ (.bool c.V)).setCell ⟨K, 7, none⟩ (.bool c.D)).setCell ⟨K, 8, none⟩ (.bool c.I)).setCell ⟨K, 9, none⟩ (.bool c.Z)).setCell ⟨K, 10, none⟩ (.bool c.C)) K 39 (cpuCells c) := by
        have := (((((pk'.set 5 (.bool c.N)).set 6 (.bool c.V)).set 7 (.bool c.D)).set 8 (.bool c.I)).set 9 (.bool c.Z)).set 10 (.bool c.C)
        exact this
      have sp3 : Span K (K + 1) W3 ((((((W3.setCell ⟨K, 5, none⟩ (.bool c.N)).setCell ⟨K, 6, none⟩ (.bool c.V)).setCell ⟨K, 7, none⟩ (.bool c.D)).setCell ⟨K, 8, none⟩ (.bool c.I)).setCell ⟨K, 9, none⟩ (.bool c.Z)).setCell ⟨K, 10, none⟩ (.bool c.C)) :=
        (((((Span.set W3 K 5 _).trans (Span.set _ K 6 _)).trans (Span.set _ K 7 _)).trans (Span.set _ K 8 _)).trans (Span.set _ K 9 _)).trans (Span.set _ K 10 _)
      have hB3 := hB2'.span sp3 (by omega)
      have hW3 := hW2'.trans (sp3.below hKK hW2'.size)
      have k0 := pk'.cell 0 _ rfl
      have k1 := pk'.cell 1 _ rfl
      have k2 := pk'.cell 2 _ rfl
      have k3 := pk'.cell 3 _ rfl
      have k4 := pk'.cell 4 _ rfl
      have k5 := pk'.cell 5 _ rfl
      have k6 := pk'.cell 6 _ rfl
      have k7 := pk'.cell 7 _ rfl
      have k8 := pk'.cell 8 _ rfl
      have k9 := pk'.cell 9 _ rfl
      have k10 := pk'.cell 10 _ rfl
      have kf' := fun k => pk'.frozen k
      go_wp2_with fail
      refine (HT c hc _).mono ?_
      rintro e W4 ⟨rfl, d4⟩
      have pk4 := pk3.below d4
      have hB4 := hB3.below d4
      have hW4 := bstep hW3 d4
      clear pk3 sp3 hB3 hW3 pk' hB2' hW2' d4 kf' k0 k1 k2 k3 k4 k5 k6 k7 k8 k9 k10
      obtain ⟨T, hT⟩ : ∃ T, cpuS c = T := ⟨_, rfl⟩
      have hTs : T.size ≤ 34 := by rw [← hT, cpuS_size]; omega
      rw [hT]
      have HTT := Lib.hid hT
      clear hT
      have rf := fun k => hB4.frozen k
      have r0 := hB4.cell 0 _ rfl
      have r1 := hB4.cell 1 _ rfl
      have r2 := hB4.cell 2 _ rfl
      have r3 := hB4.cell 3 _ rfl
      have r4 := hB4.cell 4 _ rfl
      have r5 := hB4.cell 5 _ rfl
      have r6 := hB4.cell 6 _ rfl
      have r7 := hB4.cell 7 _ rfl
      have r8 := hB4.cell 8 _ rfl
      have r9 := hB4.cell 9 _ rfl
      have r10 := hB4.cell 10 _ rfl
      by_cases heq : T = s
      · obtain ⟨rfl, rfl⟩ := HR1.out (HTT.out.trans heq)
        subst heq
        have k0 := pk4.cell 0 _ rfl
        have k1 := pk4.cell 1 _ rfl
        have k2 := pk4.cell 2 _ rfl
        have k3 := pk4.cell 3 _ rfl
        have k4 := pk4.cell 4 _ rfl
        have k5 := pk4.cell 5 _ rfl
        have k6 := pk4.cell 6 _ rfl
        have k7 := pk4.cell 7 _ rfl
        have k8 := pk4.cell 8 _ rfl
        have k9 := pk4.cell 9 _ rfl
        have k10 := pk4.cell 10 _ rfl
        go_wp2
        refine bodyPost_ret (v := .tuple #[cpuV r, .bool true]) (by simp [results, Try.results43, go_sem, r0, r1, r2, r3, r4, r5, r6, r7, r8, r9, r10]) rfl ⟨.inr ⟨HA.out, rfl⟩, ?_⟩
        repeat (any_goals (first | (with_reducible exact hW4) | (with_reducible refine Below.setCell ?_ ?_ _)))
        all_goals (first | (with_reducible exact Nat.le_refl _) | (simp; done) | (simp; omega))
      · obtain ⟨rfl, rfl⟩ := HR2.out (fun h => heq (HTT.out.symm.trans h))
        have hb : (T.toList == s.toList) = false := by
          rw [beq_eq_false_iff_ne]
          intro h
          exact heq (by apply ByteArray.ext; rw [← Array.toArray_toList (xs := T.data), ← Array.toArray_toList (xs := s.data), ← ByteArray.toList_eq, ← ByteArray.toList_eq, h])
        clear heq
        go_wp2
        refine bodyPost_ret (v := .tuple #[cpuV cpu0, .bool false]) (by simp [results, Try.results43, go_sem, cpu0, r0, r1, r2, r3, r4, r5, r6, r7, r8, r9, r10]) rfl ⟨.inr ⟨HA.out, rfl⟩, ?_⟩
        repeat (any_goals (first | (with_reducible exact hW4) | (with_reducible refine Below.setCell ?_ ?_ _)))
        all_goals (first | (with_reducible exact Nat.le_refl _) | (simp; done) | (simp; omega))

theorem extract_at (s : ByteArray) (i k : Nat) (h : i + k < s.size) (h' : k < (s.extract i s.size).size) : (s.extract i s.size)[k] = s.data.toList.getD (i + k) 0 := by
  have e : (s.extract i s.size).data.toList = s.data.toList.drop i := by
    rw [extract_part]
    simp only [strOf]
    rw [List.take_of_length_le (by rw [List.length_drop, show s.data.toList.length = s.size from Array.length_toList]; omega)]
  have h1 := getD_at (s.extract i s.size) k h'
  rw [e] at h1
  rw [← h1]
  simp [List.getD, List.getElem?_drop]

theorem byte_is (c : UInt8) (k : Nat) (hk : k < 256) : ((c.toNat : Int) == (k : Int)) = (c == UInt8.ofNat k) := by
  have e : (UInt8.ofNat k).toNat = k := by simp; omega
  rw [Bool.eq_iff_iff, beq_iff_eq, beq_iff_eq]
  constructor
  · intro h
    apply UInt8.toNat_inj.1
    omega
  · intro h
    rw [h, e]

theorem rhex_i64 (s : ByteArray) (d : Nat) (h1 : 1 ≤ d) (h8 : d ≤ 4) : -9223372036854775808 ≤ rhex s d ∧ rhex s d ≤ 9223372036854775807 := by
  by_cases h : 1 ≤ (d : Int) ∧ (d : Int) ≤ 8 ∧ (s.size : Int) = d
  · rw [rhex_yes _ _ h]
    rcases rd_neg2 s.data.toList 0 (by omega) with e | ⟨e1, e2⟩
    · omega
    · have hl : s.data.toList.length = d := by rw [show s.data.toList.length = s.size from Array.length_toList]; omega
      rw [hl] at e2
      have hp : (16 : Int) ^ d ≤ 65536 := by
        have : d = 1 ∨ d = 2 ∨ d = 3 ∨ d = 4 := by omega
        rcases this with q | q | q | q <;> rw [q] <;> decide
      omega
  · rw [rhex_no _ _ h]; omega

theorem wrap8 {x : Int} (h : 0 ≤ x) : IntKind.u8.wrap x = ((x.toNat % 256 : Nat) : Int) := by rw [IntKind.wrap_u8]; omega
theorem wrap16 {x : Int} (h : 0 ≤ x) : IntKind.u16.wrap x = ((x.toNat % 65536 : Nat) : Int) := by rw [IntKind.wrap_u16]; omega

theorem cpuNum_range (s : ByteArray) (k : Nat) : -9223372036854775808 ≤ cpuNum s k ∧ cpuNum s k ≤ 9223372036854775807 := by
  unfold cpuNum
  split
  · exact rhex_i64 _ 2 (by omega) (by omega)
  · exact rhex_i64 _ 2 (by omega) (by omega)
  · exact rhex_i64 _ 2 (by omega) (by omega)
  · exact rhex_i64 _ 2 (by omega) (by omega)
  · exact rhex_i64 _ 4 (by omega) (by omega)

theorem specReadCpu_any (s : ByteArray) (hs : s.size ≤ 1048576) (w : World) :
    Calls Try.prog 43 #[.string s] w fun e w' => e = .returned (.tuple #[cpuV ((readCpu s).getD cpu0), .bool (readCpu s).isSome]) ∧ Below w.heap.size w w' := by
  by_cases h34 : s.size = 34
  · have hm : ∀ a b : Nat, (s.extract a b).size ≤ maxLen := fun a b => by rw [ByteArray.size_extract]; unfold maxLen; omega
    refine (specReadCpu_in s (cpuNum s) (cpuNum_range s) h34 (fun w => specReadHex_any _ 2 w (hm _ _)) (fun w => specReadHex_any _ 2 w (hm _ _)) (fun w => specReadHex_any _ 2 w (hm _ _)) (fun w => specReadHex_any _ 2 w (hm _ _)) (fun w => specReadHex_any _ 4 w (hm _ _)) (fun c hc w => specCpuText_any c hc w) (cpuCand s) (cpuCand_ok s) wrap8 wrap8 wrap8 wrap8 wrap16 ?_
      (if cpuS (cpuCand s) = s then cpuCand s else cpu0) (decide (cpuS (cpuCand s) = s)) (fun h => ⟨if_pos h, decide_eq_true h⟩) (fun h => ⟨if_neg h, decide_eq_false h⟩) w).mono ?_
    · intro F h6 hF
      subst hF
      refine ⟨?_, ?_, ?_, ?_, ?_, ?_⟩
      · rw [extract_at s 28 0 (by omega) (by omega)]; exact byte_is _ 78 (by omega)
      · rw [extract_at s 28 1 (by omega) (by omega)]; exact byte_is _ 86 (by omega)
      · rw [extract_at s 28 2 (by omega) (by omega)]; exact byte_is _ 68 (by omega)
      · rw [extract_at s 28 3 (by omega) (by omega)]; exact byte_is _ 73 (by omega)
      · rw [extract_at s 28 4 (by omega) (by omega)]; exact byte_is _ 90 (by omega)
      · rw [extract_at s 28 5 (by omega) (by omega)]; exact byte_is _ 67 (by omega)
    · rintro e w' ⟨⟨⟨k, hk, hneg⟩, rfl⟩ | ⟨hall, rfl⟩, hb⟩
      · have e : readCpu s = none := by
          unfold readCpu
          rw [if_neg]
          rintro ⟨_, a0, a1, a2, a3, a4, _⟩
          have : k = 0 ∨ k = 1 ∨ k = 2 ∨ k = 3 ∨ k = 4 := by omega
          rcases this with rfl | rfl | rfl | rfl | rfl <;> omega
        rw [e]
        exact ⟨rfl, hb⟩
      · have e : readCpu s = if cpuS (cpuCand s) = s then some (cpuCand s) else none := by
          unfold readCpu
          by_cases hq : cpuS (cpuCand s) = s
          · rw [if_pos hq, if_pos ⟨h34, hall 0 (by omega), hall 1 (by omega), hall 2 (by omega), hall 3 (by omega), hall 4 (by omega), hq⟩]
          · rw [if_neg hq, if_neg (fun h => hq h.2.2.2.2.2.2)]
        rw [e]
        refine ⟨?_, hb⟩
        by_cases hq : cpuS (cpuCand s) = s
        · simp [hq]
        · simp [hq]
  · have e : readCpu s = none := by unfold readCpu; rw [if_neg (fun h => h34 h.1)]
    rw [e]
    exact specReadCpu_len s hs h34 w

end Go.Proofs.Ytppkcljpfjdlnaa
