/-
  Plain facts on steps at known operations, without any Go: an RTI behind an interrupt, an RTS behind a JSR, what is pulled behind what was pushed.
-/
import Derived.Test.YtblchdmemhhcbaaGreatQSStepS
import Derived.Test.YtblchdmemhhcbaaGreatQSStepRel
namespace Go.Proofs.YtblchdmemhhcbaaGreat
set_option linter.unusedVariables false
set_option linter.unusedSimpArgs false
open Go.RowKit

theorem getD_set_ne (M : List Nat) {i j : Nat} (d : Nat) (h : j ≠ i) : (M.set i d).getD j 0 = M.getD j 0 := by
  simp [List.getD, List.getElem?_set_ne (Ne.symm h)]

theorem getD_set_eq (M : List Nat) {i j : Nat} (d : Nat) (h : j = i) (hi : i < M.length) : (M.set i d).getD j 0 = d := by
  subst h
  simp [List.getD, hi]

theorem flags_back (n v brk d i z c : Bool) : hasB ((pkV n v brk d i z c).toNat : Int) 128 = n ∧ hasB ((pkV n v brk d i z c).toNat : Int) 64 = v ∧ hasB ((pkV n v brk d i z c).toNat : Int) 8 = d ∧ hasB ((pkV n v brk d i z c).toNat : Int) 4 = i ∧ hasB ((pkV n v brk d i z c).toNat : Int) 2 = z ∧ hasB ((pkV n v brk d i z c).toNat : Int) 1 = c := by
  cases n <;> cases v <;> cases brk <;> cases d <;> cases i <;> cases z <;> cases c <;> decide

/-- Bytes alone. -/
def AllB (M : List Nat) : Prop := ∀ i, M.getD i 0 < 256

theorem AllB.set {M : List Nat} (h : AllB M) (i : Nat) {d : Nat} (hd : d < 256) : AllB (M.set i d) := by
  intro j
  by_cases hj : j = i
  · by_cases hi : i < M.length
    · rw [getD_set_eq M d hj hi]; exact hd
    · rw [List.set_eq_of_length_le (by omega)]; exact h j
  · rw [getD_set_ne M d hj]; exact h j

theorem kind_rti : opKind 64 ≠ 1 ∧ opKind 64 ≠ 5 ∧ opKind 64 ≠ 2 ∧ opKind 64 ≠ 3 ∧ opKind 64 ≠ 4 ∧ (opName 64).toList = [82, 84, 73] ∧ opId 64 ≠ 0 := ⟨by decide, by decide, by decide, by decide, by decide, by rw [ByteArray.toList_eq]; decide +kernel, by decide⟩
theorem kind_jsr : opKind 32 ≠ 1 ∧ opKind 32 ≠ 5 ∧ opKind 32 ≠ 2 ∧ opKind 32 ≠ 3 ∧ opKind 32 ≠ 4 ∧ (opName 32).toList = [74, 83, 82] ∧ opId 32 ≠ 0 := ⟨by decide, by decide, by decide, by decide, by decide, by rw [ByteArray.toList_eq]; decide +kernel, by decide⟩
theorem kind_rts : opKind 96 ≠ 1 ∧ opKind 96 ≠ 5 ∧ opKind 96 ≠ 2 ∧ opKind 96 ≠ 3 ∧ opKind 96 ≠ 4 ∧ (opName 96).toList = [82, 84, 83] ∧ opId 96 ≠ 0 := ⟨by decide, by decide, by decide, by decide, by decide, by rw [ByteArray.toList_eq]; decide +kernel, by decide⟩
theorem kind_pha : opKind 72 ≠ 1 ∧ opKind 72 ≠ 5 ∧ opKind 72 ≠ 2 ∧ opKind 72 ≠ 3 ∧ opKind 72 ≠ 4 ∧ (opName 72).toList = [80, 72, 65] ∧ opId 72 ≠ 0 := ⟨by decide, by decide, by decide, by decide, by decide, by rw [ByteArray.toList_eq]; decide +kernel, by decide⟩
theorem kind_pla : opKind 104 ≠ 1 ∧ opKind 104 ≠ 5 ∧ opKind 104 ≠ 2 ∧ opKind 104 ≠ 3 ∧ opKind 104 ≠ 4 ∧ (opName 104).toList = [80, 76, 65] ∧ opId 104 ≠ 0 := ⟨by decide, by decide, by decide, by decide, by decide, by rw [ByteArray.toList_eq]; decide +kernel, by decide⟩
theorem kind_php : opKind 8 ≠ 1 ∧ opKind 8 ≠ 5 ∧ opKind 8 ≠ 2 ∧ opKind 8 ≠ 3 ∧ opKind 8 ≠ 4 ∧ (opName 8).toList = [80, 72, 80] ∧ opId 8 ≠ 0 := ⟨by decide, by decide, by decide, by decide, by decide, by rw [ByteArray.toList_eq]; decide +kernel, by decide⟩
theorem kind_plp : opKind 40 ≠ 1 ∧ opKind 40 ≠ 5 ∧ opKind 40 ≠ 2 ∧ opKind 40 ≠ 3 ∧ opKind 40 ≠ 4 ∧ (opName 40).toList = [80, 76, 80] ∧ opId 40 ≠ 0 := ⟨by decide, by decide, by decide, by decide, by decide, by rw [ByteArray.toList_eq]; decide +kernel, by decide⟩

/-- A step at an operation that goes elsewhere, pushes or pulls. -/
theorem stepN_go {k : Nat} {l : List UInt8} {c : CpuN} {M : List Nat} (hr : ramN M.length = true) (hpc : c.PC < 65536) (hk : opKind k ≠ 1 ∧ opKind k ≠ 5 ∧ opKind k ≠ 2 ∧ opKind k ≠ 3 ∧ opKind k ≠ 4 ∧ (opName k).toList = l ∧ opId k ≠ 0) (h : M.getD (c.PC % M.length) 0 = k) :
    stepN c M = goN ((⟨M, []⟩ : BusN).rd c.PC) c l (opMode k) := by
  obtain ⟨k1, k2, k3, k4, k5, k6, k7⟩ := hk
  have hp : peekL M c.PC = k := by unfold peekL; rw [if_pos hr]; exact h
  have hg : (⟨M, []⟩ : BusN).get c.PC = k := by
    unfold BusN.get BusN.spot
    dsimp only
    rw [Nat.mod_eq_of_lt hpc]
    exact h
  have hj : jamsN M c.PC = false := by
    unfold jamsN
    rw [hp, decide_eq_false k7, Bool.and_false]
  unfold stepN
  rw [if_pos hr, if_neg (by rw [hj]; exact Bool.false_ne_true)]
  unfold opN
  dsimp only
  rw [hg, if_neg k1, if_neg k2, if_neg (by rintro (h | h | h); exact k3 h; exact k4 h; exact k5 h), k6]

theorem getD_set_eq' (M : List Nat) {i j n : Nat} (d : Nat) (hn : M.length = n) (h : j = i) (hi : i < n) : (M.set i d).getD j 0 = d := getD_set_eq M d h (hn.symm ▸ hi)

theorem fill2 (L : List Nat) (x y : Nat) (hr : ramN L.length = true) (h : 1024 ≤ L.length) : fillL L 700 [x, y] = (L.set 700 x).set 701 y := by
  unfold fillL
  rw [if_pos ⟨hr, by simp⟩]
  simp only [fillAt]
  rw [show (700 + 0) % 65536 % L.length = 700 from (Nat.mod_eq_of_lt (by omega)).trans (by decide), show (700 + (0 + 1)) % 65536 % L.length = 701 from (Nat.mod_eq_of_lt (by omega)).trans (by decide)]

/-- What is pushed and pulled: A. -/
theorem push_a (c : CpuN) (hc : c.ok) (L : List Nat) (hr : ramN L.length = true) (h : 1024 ≤ L.length) :
    ∃ d M lg e M2 lg2, stepN { c with PC := 700 } (fillL L 700 [72, 104]) = (d, ⟨M, lg⟩) ∧ stepN d M = (e, ⟨M2, lg2⟩) ∧
      d = { c with PC := 701, S := (c.S + 255) % 256 } ∧ e = { c with PC := 702, N := bit7 c.A, Z := isZ c.A } ∧ M.length = L.length := by
  obtain ⟨n, hN⟩ : ∃ n, L.length = n := ⟨_, rfl⟩
  obtain ⟨L1, hL1⟩ : ∃ L1, (L.set 700 72).set 701 104 = L1 := ⟨_, rfl⟩
  have hn := ramN_pos hr
  rw [fill2 L _ _ hr h, hL1]
  rw [hN] at hr hn h
  have k0 : L1.length = n := by rw [← hL1]; simp [hN]
  have k1 : L1.getD 700 0 = 72 := by rw [← hL1, getD_set_ne _ _ (by omega), getD_set_eq' _ _ hN rfl (by omega)]
  have k2 : L1.getD 701 0 = 104 := by rw [← hL1, getD_set_eq' (n := n) _ _ (by simp [hN]) rfl (by omega)]
  clear hL1
  obtain ⟨cA, cX, cY, cS, cP, cN, cV, cD, cI, cZ, cC⟩ := c
  obtain ⟨hcA, hcX, hcY, hcS, hcP⟩ := hc
  dsimp only at hcS
  have hs0 : (256 + cS % 256) % 65536 % n = 256 + cS := by rw [Nat.mod_eq_of_lt (by omega), Nat.mod_eq_of_lt (by omega)]; omega
  obtain ⟨M, hM⟩ : ∃ M, L1.set (256 + cS) cA = M := ⟨_, rfl⟩
  have hML : M.length = n := by rw [← hM]; simp [k0]
  have m1 : M.getD (256 + cS) 0 = cA := by rw [← hM, getD_set_eq' _ _ k0 rfl (by omega)]
  have m2 : M.getD 701 0 = 104 := by rw [← hM, getD_set_ne _ _ (by omega), k2]
  have e1 : ∃ lg, stepN ⟨cA, cX, cY, cS, 700, cN, cV, cD, cI, cZ, cC⟩ L1 = (⟨cA, cX, cY, (cS + 255) % 256, 701, cN, cV, cD, cI, cZ, cC⟩, ⟨M, lg⟩) := by
    rw [stepN_go (k := 72) (l := [80, 72, 65]) (by rw [k0]; exact hr) (by show 700 < 65536; decide) kind_pha (by rw [k0]; dsimp only; rw [Nat.mod_eq_of_lt (by omega : 700 < n)]; exact k1)]
    unfold goN
    rw [if_neg (by decide), if_neg (by decide), if_neg (by decide), if_neg (by decide), if_neg (by decide)]
    unfold holdN
    rw [if_pos (by decide)]
    simp only [BusN.rd, BusN.put, BusN.get, BusN.spot, stk, List.length_set, k0]
    rw [hs0, hM]
    exact ⟨_, rfl⟩
  obtain ⟨lg, e1⟩ := e1
  have e2 : ∃ M2 lg2, stepN ⟨cA, cX, cY, (cS + 255) % 256, 701, cN, cV, cD, cI, cZ, cC⟩ M = (⟨cA, cX, cY, cS, 702, bit7 cA, cV, cD, cI, isZ cA, cC⟩, ⟨M2, lg2⟩) := by
    rw [stepN_go (k := 104) (l := [80, 76, 65]) (by rw [hML]; exact hr) (by dsimp only; omega) kind_pla (by rw [hML]; dsimp only; rw [Nat.mod_eq_of_lt (by omega)]; exact m2)]
    unfold goN
    rw [if_neg (by decide), if_neg (by decide), if_neg (by decide), if_neg (by decide), if_neg (by decide)]
    unfold holdN
    rw [if_neg (by decide), if_neg (by decide)]
    dsimp only
    rw [if_neg (by decide)]
    simp only [BusN.rd, BusN.put, BusN.get, BusN.spot, stk, List.length_set, hML, CpuN.nz]
    rw [show ((cS + 255) % 256 + 1) % 256 = cS % 256 by omega, hs0, m1]
    rw [show cS % 256 = cS by omega]
    exact ⟨_, _, rfl⟩
  obtain ⟨M2, lg2, e2⟩ := e2
  exact ⟨_, M, lg, _, M2, lg2, e1, e2, rfl, rfl, by rw [hML, hN]⟩

/-- What is pushed and pulled: the flags. -/
theorem push_p (c : CpuN) (hc : c.ok) (L : List Nat) (hr : ramN L.length = true) (h : 1024 ≤ L.length) :
    ∃ d M lg e M2 lg2, stepN { c with PC := 700 } (fillL L 700 [8, 40]) = (d, ⟨M, lg⟩) ∧ stepN d M = (e, ⟨M2, lg2⟩) ∧
      d = { c with PC := 701, S := (c.S + 255) % 256 } ∧ e = { c with PC := 702 } ∧ M.length = L.length := by
  obtain ⟨n, hN⟩ : ∃ n, L.length = n := ⟨_, rfl⟩
  obtain ⟨L1, hL1⟩ : ∃ L1, (L.set 700 8).set 701 40 = L1 := ⟨_, rfl⟩
  have hn := ramN_pos hr
  rw [fill2 L _ _ hr h, hL1]
  rw [hN] at hr hn h
  have k0 : L1.length = n := by rw [← hL1]; simp [hN]
  have k1 : L1.getD 700 0 = 8 := by rw [← hL1, getD_set_ne _ _ (by omega), getD_set_eq' _ _ hN rfl (by omega)]
  have k2 : L1.getD 701 0 = 40 := by rw [← hL1, getD_set_eq' (n := n) _ _ (by simp [hN]) rfl (by omega)]
  clear hL1
  obtain ⟨cA, cX, cY, cS, cP, cN, cV, cD, cI, cZ, cC⟩ := c
  obtain ⟨hcA, hcX, hcY, hcS, hcP⟩ := hc
  dsimp only at hcS
  have hs0 : (256 + cS % 256) % 65536 % n = 256 + cS := by rw [Nat.mod_eq_of_lt (by omega), Nat.mod_eq_of_lt (by omega)]; omega
  obtain ⟨M, hM⟩ : ∃ M, L1.set (256 + cS) (pkV cN cV true cD cI cZ cC).toNat = M := ⟨_, rfl⟩
  have hML : M.length = n := by rw [← hM]; simp [k0]
  have m1 : M.getD (256 + cS) 0 = (pkV cN cV true cD cI cZ cC).toNat := by rw [← hM, getD_set_eq' _ _ k0 rfl (by omega)]
  have m2 : M.getD 701 0 = 40 := by rw [← hM, getD_set_ne _ _ (by omega), k2]
  have e1 : ∃ lg, stepN ⟨cA, cX, cY, cS, 700, cN, cV, cD, cI, cZ, cC⟩ L1 = (⟨cA, cX, cY, (cS + 255) % 256, 701, cN, cV, cD, cI, cZ, cC⟩, ⟨M, lg⟩) := by
    rw [stepN_go (k := 8) (l := [80, 72, 80]) (by rw [k0]; exact hr) (by show 700 < 65536; decide) kind_php (by rw [k0]; dsimp only; rw [Nat.mod_eq_of_lt (by omega : 700 < n)]; exact k1)]
    unfold goN
    rw [if_neg (by decide), if_neg (by decide), if_neg (by decide), if_neg (by decide), if_neg (by decide)]
    unfold holdN
    rw [if_neg (by decide), if_pos (by decide)]
    simp only [BusN.rd, BusN.put, BusN.get, BusN.spot, stk, List.length_set, k0]
    rw [hs0, hM]
    exact ⟨_, rfl⟩
  obtain ⟨lg, e1⟩ := e1
  have e2 : ∃ M2 lg2, stepN ⟨cA, cX, cY, (cS + 255) % 256, 701, cN, cV, cD, cI, cZ, cC⟩ M = (⟨cA, cX, cY, cS, 702, cN, cV, cD, cI, cZ, cC⟩, ⟨M2, lg2⟩) := by
    rw [stepN_go (k := 40) (l := [80, 76, 80]) (by rw [hML]; exact hr) (by dsimp only; omega) kind_plp (by rw [hML]; dsimp only; rw [Nat.mod_eq_of_lt (by omega)]; exact m2)]
    unfold goN
    rw [if_neg (by decide), if_neg (by decide), if_neg (by decide), if_neg (by decide), if_neg (by decide)]
    unfold holdN
    rw [if_neg (by decide), if_neg (by decide)]
    dsimp only
    rw [if_pos (by decide)]
    simp only [BusN.rd, BusN.put, BusN.get, BusN.spot, stk, List.length_set, hML, CpuN.nz]
    rw [show ((cS + 255) % 256 + 1) % 256 = cS % 256 by omega, hs0, m1]
    obtain ⟨b1, b2, b3, b4, b5, b6⟩ := flags_back cN cV true cD cI cZ cC
    rw [b1, b2, b3, b4, b5, b6]
    rw [show cS % 256 = cS by omega]
    exact ⟨_, _, rfl⟩
  obtain ⟨M2, lg2, e2⟩ := e2
  exact ⟨_, M, lg, _, M2, lg2, e1, e2, rfl, rfl, by rw [hML, hN]⟩

end Go.Proofs.YtblchdmemhhcbaaGreat
