/-
  Plain facts: a processor comes back from its text, and from no other one.
-/
import Derived.Test.YtppkcljpfjdlnaaCpuC
namespace Go.Proofs.Ytppkcljpfjdlnaa
set_option linter.unusedVariables false
set_option linter.unusedSimpArgs false
open Go.RowKit

theorem dig_hexD2 (i : Nat) (h : i < 16) : dig ((hexD i).toNat : Int) = (i : Int) := by
  have : ∀ k : Fin 16, dig ((hexD k.1).toNat : Int) = (k.1 : Int) := by decide
  exact this ⟨i, h⟩

theorem hx_two (x : Nat) : hexL 2 x = [hexD (x / 16 % 16), hexD (x % 16)] := by simp [hexL]
theorem hx_four (x : Nat) : hexL 4 x = [hexD (x / 16 / 16 / 16 % 16), hexD (x / 16 / 16 % 16), hexD (x / 16 % 16), hexD (x % 16)] := by simp [hexL]

theorem rhex_two (x : Nat) (hx : x < 256) : rhex (strOf (hexL 2 x)) 2 = (x : Int) := by
  rw [rhex_yes _ _ ⟨by omega, by omega, by simp [strOf, ByteArray.size, hexL_length]⟩]
  rw [show (strOf (hexL 2 x)).data.toList = hexL 2 x by simp [strOf], hx_two]
  simp only [rd, dig_hexD2 _ (show x / 16 % 16 < 16 by omega), dig_hexD2 _ (show x % 16 < 16 by omega)]
  rw [if_neg (by omega), if_neg (by omega)]
  omega

theorem rhex_four (x : Nat) (hx : x < 65536) : rhex (strOf (hexL 4 x)) 4 = (x : Int) := by
  rw [rhex_yes _ _ ⟨by omega, by omega, by simp [strOf, ByteArray.size, hexL_length]⟩]
  rw [show (strOf (hexL 4 x)).data.toList = hexL 4 x by simp [strOf], hx_four]
  simp only [rd, dig_hexD2 _ (show x / 16 / 16 / 16 % 16 < 16 by omega), dig_hexD2 _ (show x / 16 / 16 % 16 < 16 by omega), dig_hexD2 _ (show x / 16 % 16 < 16 by omega), dig_hexD2 _ (show x % 16 < 16 by omega)]
  rw [if_neg (by omega), if_neg (by omega), if_neg (by omega), if_neg (by omega)]
  omega

theorem cpuS_list (c : CpuN) : (cpuS c).data.toList = [65, 61] ++ hexL 2 c.A ++ [32, 88, 61] ++ hexL 2 c.X ++ [32, 89, 61] ++ hexL 2 c.Y ++ [32, 83, 61] ++ hexL 2 c.S ++ [32, 80, 67, 61] ++ hexL 4 c.PC ++ [32] ++
    [if c.N then 78 else 45, if c.V then 86 else 45, if c.D then 68 else 45, if c.I then 73 else 45, if c.Z then 90 else 45, if c.C then 67 else 45] := by
  simp [cpuS, hxS, flagS, markS, ByteArray.data_append]

theorem piece {s : ByteArray} {l : List UInt8} (h : s.data.toList = l) (i j : Nat) : s.extract i j = strOf ((l.drop i).take (j - i)) := by rw [extract_part, h]

theorem cand_eq {s : ByteArray} {c : CpuN} (h1 : c.A < 256) (h2 : c.X < 256) (h3 : c.Y < 256) (h4 : c.S < 256) (h5 : c.PC < 65536) (n0 : cpuNum s 0 = c.A) (n1 : cpuNum s 1 = c.X) (n2 : cpuNum s 2 = c.Y) (n3 : cpuNum s 3 = c.S) (n4 : cpuNum s 4 = c.PC)
    (f0 : s.data.toList.getD 28 0 = if c.N then 78 else 45) (f1 : s.data.toList.getD 29 0 = if c.V then 86 else 45) (f2 : s.data.toList.getD 30 0 = if c.D then 68 else 45) (f3 : s.data.toList.getD 31 0 = if c.I then 73 else 45) (f4 : s.data.toList.getD 32 0 = if c.Z then 90 else 45) (f5 : s.data.toList.getD 33 0 = if c.C then 67 else 45) : cpuCand s = c := by
  unfold cpuCand
  rw [n0, n1, n2, n3, n4, f0, f1, f2, f3, f4, f5]
  obtain ⟨cA, cX, cY, cS, cP, cN, cV, cD, cI, cZ, cC⟩ := c
  dsimp only at h1 h2 h3 h4 h5 ⊢
  rw [Int.toNat_natCast, Int.toNat_natCast, Int.toNat_natCast, Int.toNat_natCast, Int.toNat_natCast, Nat.mod_eq_of_lt h1, Nat.mod_eq_of_lt h2, Nat.mod_eq_of_lt h3, Nat.mod_eq_of_lt h4, Nat.mod_eq_of_lt h5]
  have e : ∀ (b : Bool) (k : UInt8), k ≠ 45 → ((if b = true then k else 45) == k) = b := fun b k hk => by
    cases b
    · simpa using Ne.symm hk
    · simp
  rw [e cN 78 (by decide), e cV 86 (by decide), e cD 68 (by decide), e cI 73 (by decide), e cZ 90 (by decide), e cC 67 (by decide)]

theorem readCpu_back (c : CpuN) (hc : c.ok) : readCpu (cpuS c) = some c := by
  obtain ⟨h1, h2, h3, h4, h5⟩ := hc
  have hl := cpuS_list c
  rw [hx_two, hx_two, hx_two, hx_two, hx_four] at hl
  have n0 : cpuNum (cpuS c) 0 = c.A := by
    show rhex ((cpuS c).extract 2 4) 2 = _
    rw [piece hl 2 4, ← rhex_two c.A h1, hx_two]; rfl
  have n1 : cpuNum (cpuS c) 1 = c.X := by
    show rhex ((cpuS c).extract 7 9) 2 = _
    rw [piece hl 7 9, ← rhex_two c.X h2, hx_two]; rfl
  have n2 : cpuNum (cpuS c) 2 = c.Y := by
    show rhex ((cpuS c).extract 12 14) 2 = _
    rw [piece hl 12 14, ← rhex_two c.Y h3, hx_two]; rfl
  have n3 : cpuNum (cpuS c) 3 = c.S := by
    show rhex ((cpuS c).extract 17 19) 2 = _
    rw [piece hl 17 19, ← rhex_two c.S h4, hx_two]; rfl
  have n4 : cpuNum (cpuS c) 4 = c.PC := by
    show rhex ((cpuS c).extract 23 27) 4 = _
    rw [piece hl 23 27, ← rhex_four c.PC h5, hx_four]; rfl
  have f0 : (cpuS c).data.toList.getD 28 0 = if c.N then 78 else 45 := by rw [hl]; rfl
  have f1 : (cpuS c).data.toList.getD 29 0 = if c.V then 86 else 45 := by rw [hl]; rfl
  have f2 : (cpuS c).data.toList.getD 30 0 = if c.D then 68 else 45 := by rw [hl]; rfl
  have f3 : (cpuS c).data.toList.getD 31 0 = if c.I then 73 else 45 := by rw [hl]; rfl
  have f4 : (cpuS c).data.toList.getD 32 0 = if c.Z then 90 else 45 := by rw [hl]; rfl
  have f5 : (cpuS c).data.toList.getD 33 0 = if c.C then 67 else 45 := by rw [hl]; rfl
  have hcand : cpuCand (cpuS c) = c := cand_eq h1 h2 h3 h4 h5 n0 n1 n2 n3 n4 f0 f1 f2 f3 f4 f5
  unfold readCpu
  rw [n0, n1, n2, n3, n4, hcand, if_pos ⟨cpuS_size c, by omega, by omega, by omega, by omega, by omega, rfl⟩]

theorem readCpu_some {s : ByteArray} {c : CpuN} (h : readCpu s = some c) : cpuS c = s ∧ c.ok := by
  unfold readCpu at h
  split at h
  · rename_i hc
    simp only [Option.some.injEq] at h
    subst h
    exact ⟨hc.2.2.2.2.2.2, cpuCand_ok s⟩
  · cases h

theorem readCpu_none {s : ByteArray} (h : readCpu s = none) (c : CpuN) (hc : c.ok) : cpuS c ≠ s := by
  intro e
  rw [← e, readCpu_back c hc] at h
  cases h

end Go.Proofs.Ytppkcljpfjdlnaa
