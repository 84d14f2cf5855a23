/-
  Plain facts: what the reader makes of a processor's own text is that processor.
-/
import Derived.Test.YtppkcljpfjdlnaaCpuK
import Derived.Test.YtppkcljpfjdlnaaCpuBack
namespace Go.Proofs.Ytppkcljpfjdlnaa
set_option linter.unusedVariables false
set_option linter.unusedSimpArgs false
open Go.RowKit

/-- What the reader makes of a text. -/
def readerCpu (s : ByteArray) : CpuN :=
  ⟨byteS s, byteS (restS s), byteS (restS (restS s)), byteS (restS (restS (restS s))), wordS (restS (restS (restS (restS s)))),
    hasS (restS (restS (restS (restS (restS s))))) 78, hasS (restS (restS (restS (restS (restS s))))) 86, hasS (restS (restS (restS (restS (restS s))))) 68, hasS (restS (restS (restS (restS (restS s))))) 73, hasS (restS (restS (restS (restS (restS s))))) 90, hasS (restS (restS (restS (restS (restS s))))) 67⟩

theorem readerCpu_ok (s : ByteArray) : (readerCpu s).ok := ⟨byteS_lt _, byteS_lt _, byteS_lt _, byteS_lt _, wordS_lt _⟩

theorem signAt_app (c : UInt8) : ∀ (l r : List UInt8), (∀ x ∈ l, x ≠ c) → signAt (l ++ c :: r) c = l.length
  | [], r, _ => by simp [signAt, List.takeWhile]
  | x :: l, r, h => by
    have hx : (x != c) = true := by simpa using h x (by simp)
    have ih := signAt_app c l r (fun y hy => h y (by simp [hy]))
    unfold signAt at ih ⊢
    simp only [List.cons_append, List.takeWhile, hx, List.length_cons, ih]

theorem cutA_app (c : UInt8) (l r : List UInt8) (h : ∀ x ∈ l, x ≠ c) : cutA (strOf (l ++ c :: r)) c = strOf l := by
  unfold cutA
  rw [show (strOf (l ++ c :: r)).data.toList = l ++ c :: r by simp [strOf], signAt_app c l r h]
  simp

theorem cutB_app (c : UInt8) (l r : List UInt8) (h : ∀ x ∈ l, x ≠ c) : cutB (strOf (l ++ c :: r)) c = strOf r := by
  unfold cutB
  rw [show (strOf (l ++ c :: r)).data.toList = l ++ c :: r by simp [strOf], signAt_app c l r h]
  simp

theorem hexD_not (i : Nat) (h : i < 16) : hexD i ≠ 32 ∧ hexD i ≠ 61 := by
  have : ∀ k : Fin 16, hexD k.1 ≠ 32 ∧ hexD k.1 ≠ 61 := by decide
  exact this ⟨i, h⟩

theorem hex2_not (x : Nat) : ∀ y ∈ hexL 2 x, y ≠ 32 ∧ y ≠ 61 := by
  rw [hx_two]
  intro y hy
  simp only [List.mem_cons, List.not_mem_nil, or_false] at hy
  rcases hy with rfl | rfl
  · exact hexD_not _ (by omega)
  · exact hexD_not _ (by omega)

theorem hex4_not (x : Nat) : ∀ y ∈ hexL 4 x, y ≠ 32 ∧ y ≠ 61 := by
  rw [hx_four]
  intro y hy
  simp only [List.mem_cons, List.not_mem_nil, or_false] at hy
  rcases hy with rfl | rfl | rfl | rfl
  · exact hexD_not _ (by omega)
  · exact hexD_not _ (by omega)
  · exact hexD_not _ (by omega)
  · exact hexD_not _ (by omega)

/-- A word of a name without signs, the sign =, and digits. -/
theorem word_parts (nm ds r : List UInt8) (hn : ∀ x ∈ nm, x ≠ 32 ∧ x ≠ 61) (hd : ∀ x ∈ ds, x ≠ 32 ∧ x ≠ 61) :
    digsS (strOf (nm ++ 61 :: (ds ++ 32 :: r))) = strOf ds ∧ restS (strOf (nm ++ 61 :: (ds ++ 32 :: r))) = strOf r := by
  have e : nm ++ 61 :: (ds ++ 32 :: r) = (nm ++ 61 :: ds) ++ 32 :: r := by simp
  have h1 : ∀ x ∈ nm ++ 61 :: ds, x ≠ 32 := by
    intro x hx
    simp only [List.mem_append, List.mem_cons] at hx
    rcases hx with hx | rfl | hx
    · exact (hn x hx).1
    · decide
    · exact (hd x hx).1
  unfold digsS restS
  rw [e, cutA_app 32 _ _ h1, cutB_app 32 _ _ h1, cutB_app 61 _ _ (fun x hx => (hn x hx).2)]
  exact ⟨rfl, rfl⟩

theorem byte_word (nm r : List UInt8) (x : Nat) (hx : x < 256) (hn : ∀ x ∈ nm, x ≠ 32 ∧ x ≠ 61) :
    byteS (strOf (nm ++ 61 :: (hexL 2 x ++ 32 :: r))) = x ∧ restS (strOf (nm ++ 61 :: (hexL 2 x ++ 32 :: r))) = strOf r := by
  obtain ⟨h1, h2⟩ := word_parts nm (hexL 2 x) r hn (hex2_not x)
  refine ⟨?_, h2⟩
  unfold byteS
  rw [h1, rhex_two x hx]
  omega

theorem word_word (nm r : List UInt8) (x : Nat) (hx : x < 65536) (hn : ∀ x ∈ nm, x ≠ 32 ∧ x ≠ 61) :
    wordS (strOf (nm ++ 61 :: (hexL 4 x ++ 32 :: r))) = x ∧ restS (strOf (nm ++ 61 :: (hexL 4 x ++ 32 :: r))) = strOf r := by
  obtain ⟨h1, h2⟩ := word_parts nm (hexL 4 x) r hn (hex4_not x)
  refine ⟨?_, h2⟩
  unfold wordS
  rw [h1, rhex_four x hx]
  omega

theorem flags_has (n v d i z c : Bool) : let F := strOf [if n then 78 else 45, if v then 86 else 45, if d then 68 else 45, if i then 73 else 45, if z then 90 else 45, if c then 67 else 45]
    hasS F 78 = n ∧ hasS F 86 = v ∧ hasS F 68 = d ∧ hasS F 73 = i ∧ hasS F 90 = z ∧ hasS F 67 = c := by
  revert n v d i z c
  decide

theorem reader_back (c : CpuN) (hc : c.ok) : readerCpu (cpuS c) = c := by
  obtain ⟨h1, h2, h3, h4, h5⟩ := hc
  have e : cpuS c = strOf ([65] ++ 61 :: (hexL 2 c.A ++ 32 :: ([88] ++ 61 :: (hexL 2 c.X ++ 32 :: ([89] ++ 61 :: (hexL 2 c.Y ++ 32 :: ([83] ++ 61 :: (hexL 2 c.S ++ 32 :: ([80, 67] ++ 61 :: (hexL 4 c.PC ++ 32 :: [if c.N then 78 else 45, if c.V then 86 else 45, if c.D then 68 else 45, if c.I then 73 else 45, if c.Z then 90 else 45, if c.C then 67 else 45])))))))))) := by
    rw [← strOf_data (cpuS c), cpuS_list]; simp
  rw [e]
  unfold readerCpu
  obtain ⟨a1, b1⟩ := byte_word [65] ([88] ++ 61 :: (hexL 2 c.X ++ 32 :: ([89] ++ 61 :: (hexL 2 c.Y ++ 32 :: ([83] ++ 61 :: (hexL 2 c.S ++ 32 :: ([80, 67] ++ 61 :: (hexL 4 c.PC ++ 32 :: [if c.N then 78 else 45, if c.V then 86 else 45, if c.D then 68 else 45, if c.I then 73 else 45, if c.Z then 90 else 45, if c.C then 67 else 45])))))))) c.A h1 (by decide)
  rw [a1, b1]
  obtain ⟨a2, b2⟩ := byte_word [88] ([89] ++ 61 :: (hexL 2 c.Y ++ 32 :: ([83] ++ 61 :: (hexL 2 c.S ++ 32 :: ([80, 67] ++ 61 :: (hexL 4 c.PC ++ 32 :: [if c.N then 78 else 45, if c.V then 86 else 45, if c.D then 68 else 45, if c.I then 73 else 45, if c.Z then 90 else 45, if c.C then 67 else 45])))))) c.X h2 (by decide)
  rw [a2, b2]
  obtain ⟨a3, b3⟩ := byte_word [89] ([83] ++ 61 :: (hexL 2 c.S ++ 32 :: ([80, 67] ++ 61 :: (hexL 4 c.PC ++ 32 :: [if c.N then 78 else 45, if c.V then 86 else 45, if c.D then 68 else 45, if c.I then 73 else 45, if c.Z then 90 else 45, if c.C then 67 else 45])))) c.Y h3 (by decide)
  rw [a3, b3]
  obtain ⟨a4, b4⟩ := byte_word [83] ([80, 67] ++ 61 :: (hexL 4 c.PC ++ 32 :: [if c.N then 78 else 45, if c.V then 86 else 45, if c.D then 68 else 45, if c.I then 73 else 45, if c.Z then 90 else 45, if c.C then 67 else 45])) c.S h4 (by decide)
  rw [a4, b4]
  obtain ⟨a5, b5⟩ := word_word [80, 67] [if c.N then 78 else 45, if c.V then 86 else 45, if c.D then 68 else 45, if c.I then 73 else 45, if c.Z then 90 else 45, if c.C then 67 else 45] c.PC h5 (by decide)
  rw [a5, b5]
  obtain ⟨f1, f2, f3, f4, f5, f6⟩ := flags_has c.N c.V c.D c.I c.Z c.C
  rw [f1, f2, f3, f4, f5, f6]

theorem reader_yes {s : ByteArray} (h : cpuS (readerCpu s) = s) : readCpu s = some (readerCpu s) := by
  have := readCpu_back (readerCpu s) (readerCpu_ok s)
  rwa [h] at this

theorem reader_no {s : ByteArray} (h : cpuS (readerCpu s) ≠ s) : readCpu s = none := by
  cases hr : readCpu s with
  | none => rfl
  | some c =>
    obtain ⟨e, hc⟩ := readCpu_some hr
    refine absurd ?_ h
    rw [← e, reader_back c hc]

end Go.Proofs.Ytppkcljpfjdlnaa
