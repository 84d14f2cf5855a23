/-
  Plain facts, without any Go: bytes come back from their listing, assembled where they stood.
-/
import Derived.Test.YtffhjoldiicgdaaAsmD
import Derived.Test.YtffhjoldiicgdaaAsmE
import Derived.Test.YtffhjoldiicgdaaAsmLaws2
import Derived.Test.YtffhjoldiicgdaaDraw
import Derived.ProofKit
import Derived.OpenShut
namespace Go.Proofs.Ytffhjoldiicgdaa
set_option linter.unusedVariables false
set_option linter.unusedSimpArgs false

/-- What is said behind each line. -/
def saidL : List UInt8 := [32, 59, 32, 115, 97, 105, 100]

structure OkC (c : UInt8) : Prop where
  bl : isBl c = false
  semi : noSemi c = true
  nl : isNl c = false

def okC (c : UInt8) : Bool := !isBl c && noSemi c && !isNl c

theorem okC_iff (c : UInt8) : okC c = true ↔ isBl c = false ∧ noSemi c = true ∧ isNl c = false := by
  unfold okC; simp [and_assoc]

theorem digit_ok {c : UInt8} (h : isHx c = true) : okC c = true := by
  have h' : 0 ≤ dig (c.toNat : Int) := by simpa [isHx] using h
  have hr : 48 ≤ c.toNat := by
    unfold dig at h'
    split at h'
    · omega
    · split at h' <;> omega
  have hne : c.toNat ≠ 59 := by
    intro e
    rw [e] at h'
    exact absurd h' (by decide)
  have n : ∀ d : UInt8, d.toNat < 48 → c ≠ d := fun d hd e => by rw [e] at hr; omega
  have n59 : c ≠ 59 := fun e => hne (by rw [e]; rfl)
  unfold okC isBl noSemi isNl
  simp [n 32 (by decide), n 9 (by decide), n 10 (by decide), n59]

/-- A word, or two with a blank between them. -/
def Told (l : List UInt8) : Prop := ∃ A, A ≠ [] ∧ (∀ c ∈ A, okC c = true) ∧ (l = A ∨ ∃ B, B ≠ [] ∧ (∀ c ∈ B, okC c = true) ∧ l = A ++ 32 :: B)

theorem takeWhile_all {p : UInt8 → Bool} : ∀ (l r : List UInt8) (c : UInt8), (∀ d ∈ l, p d = true) → p c = false → (l ++ c :: r).takeWhile p = l
  | [], r, c, _, hc => by simp [List.takeWhile, hc]
  | x :: l, r, c, h, hc => by
    rw [List.cons_append, List.takeWhile_cons, if_pos (h x (by simp)), takeWhile_all l r c (fun d hd => h d (by simp [hd])) hc]

theorem told_line {l : List UInt8} (h : Told l) : lineT (l ++ saidL) = l := by
  obtain ⟨A, hA, oA, h⟩ := h
  have bA : ∀ c ∈ A, isBl c = false := fun c hc => ((okC_iff c).1 (oA c hc)).1
  have sA : ∀ c ∈ A, noSemi c = true := fun c hc => ((okC_iff c).1 (oA c hc)).2.1
  have eA : A.isEmpty = false := by cases A with | nil => exact absurd rfl hA | cons => rfl
  rcases h with rfl | ⟨B, hB, oB, rfl⟩
  · have e : (l ++ saidL).takeWhile noSemi = l ++ [32] := by
      have := takeWhile_all (p := noSemi) (l ++ [32]) [32, 115, 97, 105, 100] 59 (fun d hd => by
        rcases List.mem_append.1 hd with q | q
        · exact sA d q
        · obtain rfl : d = 32 := by simpa using q
          decide) (by decide)
      simpa [saidL] using this
    unfold lineT
    rw [e, wordsL, cut_gap isBl 32 [] (by decide) l bA]
    simp [cut, joinT, joinR, eA]
  · have bB : ∀ c ∈ B, isBl c = false := fun c hc => ((okC_iff c).1 (oB c hc)).1
    have sB : ∀ c ∈ B, noSemi c = true := fun c hc => ((okC_iff c).1 (oB c hc)).2.1
    have eB : B.isEmpty = false := by cases B with | nil => exact absurd rfl hB | cons => rfl
    have e : (A ++ 32 :: B ++ saidL).takeWhile noSemi = A ++ 32 :: (B ++ [32]) := by
      have := takeWhile_all (p := noSemi) (A ++ 32 :: (B ++ [32])) [32, 115, 97, 105, 100] 59 (fun d hd => by
        rcases List.mem_append.1 hd with q | q
        · exact sA d q
        · rcases List.mem_cons.1 q with rfl | q
          · decide
          · rcases List.mem_append.1 q with q | q
            · exact sB d q
            · obtain rfl : d = 32 := by simpa using q
              decide) (by decide)
      simpa [saidL] using this
    unfold lineT
    rw [e, wordsL, cut_gap isBl 32 (B ++ [32]) (by decide) A bA, cut_gap isBl 32 [] (by decide) B bB]
    simp [cut, joinT, joinR, eA, eB]

theorem told_nl {l : List UInt8} (h : Told l) : ∀ c ∈ l, isNl c = false := by
  obtain ⟨A, hA, oA, h⟩ := h
  intro c hc
  rcases h with rfl | ⟨B, hB, oB, rfl⟩
  · exact ((okC_iff c).1 (oA c hc)).2.2
  · rcases List.mem_append.1 hc with q | q
    · exact ((okC_iff c).1 (oA c q)).2.2
    · rcases List.mem_cons.1 q with rfl | q
      · decide
      · exact ((okC_iff c).1 (oB c q)).2.2

theorem told_ne {l : List UInt8} (h : Told l) : l ≠ [] := by
  obtain ⟨A, hA, _, rfl | ⟨B, _, _, rfl⟩⟩ := h
  · exact hA
  · simp

theorem name_ok {x : Nat} (hx : x < 256) (h : opId x ≠ 0) : (opName x).data.toList ≠ [] ∧ (∀ c ∈ (opName x).data.toList, okC c = true) ∧ (opName x).data.toList.getD 0 0 ≠ 46 := by
  have h' : ∀ k : Fin 57, k.1 ≠ 0 → (opTx k.1).data.toList ≠ [] ∧ (∀ c ∈ (opTx k.1).data.toList, okC c = true) ∧ (opTx k.1).data.toList.getD 0 0 ≠ 46 := by decide +kernel
  exact h' ⟨opId x, by have := opId_le hx; omega⟩ h

theorem hexL_ok (d x : Nat) : ∀ c ∈ hexL d x, okC c = true := by
  induction d generalizing x with
  | zero => simp [hexL]
  | succ d ih =>
    intro c hc
    rw [hexL] at hc
    rcases List.mem_append.1 hc with q | q
    · exact ih _ c q
    · obtain rfl : c = hexD (x % 16) := by simpa using q
      exact digit_ok (hexD_digit (by omega)).hx

theorem show_told {x0 x1 x2 pc : Nat} (h0 : x0 < 256) (hid : opId x0 ≠ 0) : Told (showTx x0 x1 x2 pc).data.toList := by
  obtain ⟨n1, n2, _⟩ := name_ok h0 hid
  rw [showTx_list]
  refine ⟨_, n1, n2, ?_⟩
  have o1 := hexL_ok 2 x1
  have o2 := hexL_ok 4 (x1 + 256 * x2)
  have o3 := hexL_ok 4 (relAt pc x1)
  have q : ∀ (P M Q : List UInt8), (∀ c ∈ P, okC c = true) → (∀ c ∈ M, okC c = true) → (∀ c ∈ Q, okC c = true) → ∀ c ∈ P ++ M ++ Q, okC c = true := fun P M Q a b c d hd => by
    rcases List.mem_append.1 hd with e | e
    · rcases List.mem_append.1 e with f | f
      · exact a d f
      · exact b d f
    · exact c d e
  have k1 : ∀ c ∈ [(36 : UInt8)], okC c = true := by decide
  have k2 : ∀ c ∈ [(35 : UInt8), 36], okC c = true := by decide
  have k3 : ∀ c ∈ [(40 : UInt8), 36], okC c = true := by decide
  have k0 : ∀ c ∈ ([] : List UInt8), okC c = true := by decide
  have j1 : ∀ c ∈ [(44 : UInt8), 88], okC c = true := by decide
  have j2 : ∀ c ∈ [(44 : UInt8), 89], okC c = true := by decide
  have j3 : ∀ c ∈ [(41 : UInt8)], okC c = true := by decide
  have j4 : ∀ c ∈ [(44 : UInt8), 88, 41], okC c = true := by decide
  have j5 : ∀ c ∈ [(41 : UInt8), 44, 89], okC c = true := by decide
  rcases modes13 h0 hid with e | e | e | e | e | e | e | e | e | e | e | e | e <;> rw [e]
  · exact .inl (by simp [tailM])
  · exact .inr ⟨[65], by simp, by decide, by simp [tailM]⟩
  · exact .inr ⟨[35, 36] ++ hexL 2 x1 ++ [], by simp, q _ _ _ k2 o1 k0, by simp [tailM]⟩
  · exact .inr ⟨[36] ++ hexL 2 x1 ++ [], by simp, q _ _ _ k1 o1 k0, by simp [tailM]⟩
  · exact .inr ⟨[36] ++ hexL 2 x1 ++ [44, 88], by simp, q _ _ _ k1 o1 j1, by simp [tailM]⟩
  · exact .inr ⟨[36] ++ hexL 2 x1 ++ [44, 89], by simp, q _ _ _ k1 o1 j2, by simp [tailM]⟩
  · exact .inr ⟨[36] ++ hexL 4 (x1 + 256 * x2) ++ [], by simp, q _ _ _ k1 o2 k0, by simp [tailM]⟩
  · exact .inr ⟨[36] ++ hexL 4 (x1 + 256 * x2) ++ [44, 88], by simp, q _ _ _ k1 o2 j1, by simp [tailM]⟩
  · exact .inr ⟨[36] ++ hexL 4 (x1 + 256 * x2) ++ [44, 89], by simp, q _ _ _ k1 o2 j2, by simp [tailM]⟩
  · exact .inr ⟨[40, 36] ++ hexL 4 (x1 + 256 * x2) ++ [41], by simp, q _ _ _ k3 o2 j3, by simp [tailM]⟩
  · exact .inr ⟨[40, 36] ++ hexL 2 x1 ++ [44, 88, 41], by simp, q _ _ _ k3 o1 j4, by simp [tailM]⟩
  · exact .inr ⟨[40, 36] ++ hexL 2 x1 ++ [41, 44, 89], by simp, q _ _ _ k3 o1 j5, by simp [tailM]⟩
  · exact .inr ⟨[36] ++ hexL 4 (relAt pc x1) ++ [], by simp, q _ _ _ k1 o3 k0, by simp [tailM]⟩

theorem byte_told (x : Nat) : Told ([46, 98, 121, 116, 101, 32, 36] ++ hexL 2 x) :=
  ⟨[46, 98, 121, 116, 101], by simp, by decide, .inr ⟨36 :: hexL 2 x, by simp, fun c hc => by
    rcases List.mem_cons.1 hc with rfl | q
    · decide
    · exact hexL_ok 2 x c q, by simp⟩⟩

/-- A line's word tells the bytes that it was made of. -/
theorem word_back {L : List Nat} {org k : Nat} (hb : ∀ i, i < L.length → L.getD i 0 < 256) (hk : k < L.length) :
    Told (wordAt L org k).data.toList ∧ asmLine (wordAt L org k).data.toList ((org + k) % 65536) = some ((L.drop k).take (stepAt L org k)) := by
  have hby : ∀ i, L.getD i 0 < 256 := fun i => by
    by_cases hi : i < L.length
    · exact hb i hi
    · simp [List.getD, List.getElem?_eq_none (by omega : L.length ≤ i)]
  unfold wordAt stepAt
  cases hE : (textAt L org k).toList.isEmpty with
  | true =>
    have e : (ByteArray.mk #[46, 98, 121, 116, 101, 32, 36] ++ strOf (hexL 2 (L.getD k 0))).data.toList = [46, 98, 121, 116, 101, 32, 36] ++ hexL 2 (L.getD k 0) := by simp [strOf, ByteArray.data_append]
    simp only [if_true]
    rw [e]
    refine ⟨byte_told _, ?_⟩
    have hbl : byteLine ([46, 98, 121, 116, 101, 32, 36] ++ hexL 2 (L.getD k 0)) = some (L.getD k 0) := by
      have hd : ([46, 98, 121, 116, 101, 32, 36] ++ hexL 2 (L.getD k 0)).drop 7 = hexL 2 (L.getD k 0) := by simp
      unfold byteLine
      rw [hd, rd_two (hby k), if_pos ⟨by simp [hexL_length], by simp, by omega⟩, hexN, rd_two (hby k)]
      simp
    have d0 : L.drop k = L.getD k 0 :: L.drop (k + 1) := by rw [List.drop_eq_getElem_cons hk]; simp [List.getD, hk]
    unfold asmLine
    rw [hbl, d0]
    rfl
  | false =>
    simp only [Bool.false_eq_true, if_false]
    obtain ⟨z1, z3, zk⟩ := textAt_full hb hk hE
    have hid : opId (L.getD k 0) ≠ 0 := fun e => by rw [opSize, if_pos e] at z1; omega
    have ht : textAt L org k = showTx (L.getD k 0) (L.getD (k + 1) 0) (L.getD (k + 2) 0) ((org + k) % 65536) := by
      unfold textAt showOp
      rw [if_neg (by omega)]
    rw [ht]
    refine ⟨show_told (hby k) hid, ?_⟩
    have hbl : byteLine (showTx (L.getD k 0) (L.getD (k + 1) 0) (L.getD (k + 2) 0) ((org + k) % 65536)).data.toList = none := by
      unfold byteLine
      rw [if_neg]
      rintro ⟨_, h7, _⟩
      obtain ⟨n1, _, n3⟩ := name_ok (hby k) hid
      rw [showTx_list] at h7
      cases hn : (opName (L.getD k 0)).data.toList with
      | nil => exact n1 hn
      | cons c r =>
        rw [hn] at h7 n3
        simp only [List.cons_append, List.take_succ_cons, List.cons.injEq] at h7
        exact n3 (by simpa [List.getD] using h7.1)
    unfold asmLine
    rw [hbl]
    show readOp (strOf (showTx _ _ _ _).data.toList) _ = _
    rw [strOf_data, read_show (hby k) (hby (k + 1)) (hby (k + 2)) hid]
    congr 1
    obtain ⟨n, hn⟩ : ∃ n, (opSize (L.getD k 0)).toNat = n := ⟨_, rfl⟩
    rw [hn] at zk ⊢
    have hn3 : n = 1 ∨ n = 2 ∨ n = 3 := by omega
    have d0 : L.drop k = L.getD k 0 :: L.drop (k + 1) := by rw [List.drop_eq_getElem_cons hk]; simp [List.getD, hk]
    rcases hn3 with rfl | rfl | rfl
    · rw [d0]; simp
    · have d1 : L.drop (k + 1) = L.getD (k + 1) 0 :: L.drop (k + 2) := by rw [List.drop_eq_getElem_cons (by omega)]; simp [List.getD, show k + 1 < L.length by omega]
      rw [d0, d1]; simp
    · have d1 : L.drop (k + 1) = L.getD (k + 1) 0 :: L.drop (k + 2) := by rw [List.drop_eq_getElem_cons (by omega)]; simp [List.getD, show k + 1 < L.length by omega]
      have d2 : L.drop (k + 2) = L.getD (k + 2) 0 :: L.drop (k + 3) := by rw [List.drop_eq_getElem_cons (by omega)]; simp [List.getD, show k + 2 < L.length by omega]
      rw [d0, d1, d2]; simp

/-- The words of a listing's lines. -/
def wordsFrom' (L : List Nat) (org : Nat) : Nat → Nat → List (List UInt8)
  | 0, _ => []
  | f + 1, k => if k < L.length then (wordAt L org k).data.toList :: wordsFrom' L org f (k + stepAt L org k) else []

theorem asm_words {L : List Nat} {org : Nat} (hb : ∀ i, i < L.length → L.getD i 0 < 256) (hL : L.length ≤ 1024) : ∀ (f k i : Nat), k ≤ L.length → L.length ≤ k + f →
    asmFrom org ((wordsFrom' L org f k).map fun x => strOf (x ++ saidL)) i (L.take k) = (L, 0)
  | 0, k, i, h1, h2 => by
    have : k = L.length := by omega
    simp [wordsFrom', asmFrom, this]
  | f + 1, k, i, h1, h2 => by
    rw [wordsFrom']
    by_cases hk : k < L.length
    · rw [if_pos hk]
      obtain ⟨w1, w2⟩ := word_back (org := org) hb hk
      obtain ⟨s1, s3, sk⟩ := stepAt_pos (org := org) hb hk
      have hl : (L.take k).length = k := by simp; omega
      have hl2 : ((L.drop k).take (stepAt L org k)).length = stepAt L org k := by simp; omega
      have e : (strOf ((wordAt L org k).data.toList ++ saidL)).data.toList = (wordAt L org k).data.toList ++ saidL := by simp [strOf]
      have ne : (wordAt L org k).data.toList.isEmpty = false := by
        have := told_ne w1
        cases hq : (wordAt L org k).data.toList with
        | nil => exact absurd hq this
        | cons => rfl
      rw [List.map_cons, asmFrom, e, told_line w1, ne, hl, w2]
      simp only [Bool.false_eq_true, if_false]
      rw [hl2, if_neg (by omega)]
      have ht : L.take k ++ (L.drop k).take (stepAt L org k) = L.take (k + stepAt L org k) := (List.take_add).symm
      rw [ht]
      exact asm_words hb hL f (k + stepAt L org k) (i + 1) sk (by omega)
    · rw [if_neg hk]
      have : k = L.length := by omega
      simp [asmFrom, this]

/-- Where a listing's lines begin. -/
def posFrom (L : List Nat) (org : Nat) : Nat → Nat → List Nat
  | 0, _ => []
  | f + 1, k => if k < L.length then k :: posFrom L org f (k + stepAt L org k) else []

theorem posFrom_lt {L : List Nat} {org : Nat} : ∀ (f k : Nat), ∀ p ∈ posFrom L org f k, p < L.length
  | 0, k, p, h => by simp [posFrom] at h
  | f + 1, k, p, h => by
    rw [posFrom] at h
    by_cases hk : k < L.length
    · rw [if_pos hk] at h
      rcases List.mem_cons.1 h with rfl | q
      · exact hk
      · exact posFrom_lt f _ p q
    · rw [if_neg hk] at h; simp at h

theorem list_pos {L : List Nat} {org : Nat} : ∀ f k : Nat, listFrom L org f k = (posFrom L org f k).map (lineAt L org)
  | 0, k => rfl
  | f + 1, k => by
    rw [listFrom, posFrom]
    by_cases hk : k < L.length
    · rw [if_pos hk, if_pos hk, List.map_cons, list_pos f]
    · rw [if_neg hk, if_neg hk]; rfl

theorem words_pos {L : List Nat} {org : Nat} : ∀ f k : Nat, wordsFrom' L org f k = (posFrom L org f k).map fun p => (wordAt L org p).data.toList
  | 0, k => rfl
  | f + 1, k => by
    rw [wordsFrom', posFrom]
    by_cases hk : k < L.length
    · rw [if_pos hk, if_pos hk, List.map_cons, words_pos f]
    · rw [if_neg hk, if_neg hk]; rfl

theorem lineL_len {L : List Nat} {org k : Nat} (hb : ∀ i, i < L.length → L.getD i 0 < 256) (hk : k < L.length) (pc : Nat) : (lineL pc ((L.drop k).take (stepAt L org k))).length = 15 := by
  obtain ⟨s1, s3, sk⟩ := stepAt_pos (org := org) hb hk
  have hl2 : ((L.drop k).take (stepAt L org k)).length = stepAt L org k := by simp; omega
  unfold lineL padL
  rw [List.length_append, List.length_replicate, List.length_append, List.length_append, hexL_length, bytesL_len, hl2]
  simp only [List.length_cons, List.length_nil]
  omega

/-- A line behind its first fifteen bytes is its word, which has three or more. -/
theorem line_word {L : List Nat} {org k : Nat} (hb : ∀ i, i < L.length → L.getD i 0 < 256) (hk : k < L.length) :
    (lineAt L org k).extract 15 (lineAt L org k).size = wordAt L org k ∧ 18 ≤ (lineAt L org k).size ∧ (lineAt L org k).size ≤ 27 := by
  have h15 := lineL_len (org := org) hb hk ((org + k) % 65536)
  have hd : (lineAt L org k).data.toList = lineL ((org + k) % 65536) ((L.drop k).take (stepAt L org k)) ++ (wordAt L org k).data.toList := by
    unfold lineAt; simp [strOf, ByteArray.data_append]
  have hsz : (lineAt L org k).size = 15 + (wordAt L org k).size := by
    have : (lineAt L org k).size = (lineAt L org k).data.toList.length := Array.length_toList.symm
    rw [this, hd, List.length_append, h15, Array.length_toList]; rfl
  have hw : 3 ≤ (wordAt L org k).size ∧ (wordAt L org k).size ≤ 12 := by
    have hby : L.getD k 0 < 256 := hb k hk
    unfold wordAt
    cases hE : (textAt L org k).toList.isEmpty with
    | true =>
      simp only [if_true, ByteArray.size_append, strOf_size, hexL_length]
      decide
    | false =>
      simp only [Bool.false_eq_true, if_false]
      obtain ⟨z1, z3, zk⟩ := textAt_full hb hk hE
      have hid : opId (L.getD k 0) ≠ 0 := fun e => by rw [opSize, if_pos e] at z1; omega
      unfold textAt showOp
      rw [if_neg (by omega)]
      exact show_size hby hid
  refine ⟨?_, by omega, by omega⟩
  rw [extract_rest, hd, List.drop_append_of_le_length (by omega), List.drop_of_length_le (by omega)]
  simp [strOf_data]

/-- The text of a listing's words, each with what is said behind it. -/
def saidText (W : List (List UInt8)) : List UInt8 := W.flatMap fun x => x ++ saidL ++ [10]

theorem said_lines : ∀ W : List (List UInt8), (∀ x ∈ W, Told x) → cut isNl (saidText W) = W.map (· ++ saidL) ++ [[]]
  | [], _ => rfl
  | x :: r, h => by
    have e : saidText (x :: r) = (x ++ saidL) ++ 10 :: saidText r := by simp [saidText]
    rw [e, cut_gap isNl 10 _ (by decide) (x ++ saidL) (fun d hd => by
      rcases List.mem_append.1 hd with q | q
      · exact told_nl (h x (by simp)) d q
      · exact (show ∀ d ∈ saidL, isNl d = false by decide) d q), said_lines r (fun y hy => h y (by simp [hy]))]
    rfl

theorem lines_said (W : List (List UInt8)) (h : ∀ x ∈ W, Told x) : linesOf (saidText W) = W.map fun x => strOf (x ++ saidL) := by
  unfold linesOf
  rw [said_lines W h, if_pos (by simp)]
  simp

/-- Bytes come back from their listing. -/
theorem listing_back {L : List Nat} {org : Nat} (hb : ∀ i, i < L.length → L.getD i 0 < 256) (hL : L.length ≤ 1024) (ht : (saidText (wordsFrom' L org L.length 0)).length ≤ 20000) : assemble (strOf (saidText (wordsFrom' L org L.length 0))) org = (L, 0) := by
  have hT : ∀ x ∈ wordsFrom' L org L.length 0, Told x := by
    intro x hx
    rw [words_pos] at hx
    obtain ⟨p, hp, rfl⟩ := List.mem_map.1 hx
    exact (word_back hb (posFrom_lt _ _ p hp)).1
  rw [assemble, if_neg (by rw [strOf_size]; omega)]
  have e : (strOf (saidText (wordsFrom' L org L.length 0))).data.toList = saidText (wordsFrom' L org L.length 0) := by simp [strOf]
  rw [e, lines_said _ hT]
  have := asm_words (org := org) hb hL L.length 0 0 (Nat.zero_le _) (by omega)
  simpa using this

end Go.Proofs.Ytffhjoldiicgdaa

namespace Go.Proofs.Ytffhjoldiicgdaa
set_option linter.unusedVariables false
set_option linter.unusedSimpArgs false
open Go.RowKit

theorem posFrom_len {L : List Nat} {org : Nat} : ∀ f k : Nat, (posFrom L org f k).length ≤ f
  | 0, k => by simp [posFrom]
  | f + 1, k => by
    rw [posFrom]
    split
    · have := posFrom_len (L := L) (org := org) f (k + stepAt L org k); simp; omega
    · simp

theorem said_step (W : List (List UInt8)) (j : Nat) (h : j < W.length) : saidText (W.take (j + 1)) = saidText (W.take j) ++ (W.getD j [] ++ (saidL ++ [10])) := by
  have e : W.take (j + 1) = W.take j ++ [W.getD j []] := by rw [List.take_add_one, List.getD, List.getElem?_eq_getElem h]; rfl
  rw [e]
  generalize W.take j = A
  generalize W.getD j [] = x
  simp [saidText]

/-- A listing's lines, one by one. -/
theorem list_at {L : List Nat} {org : Nat} (hb : ∀ i, i < L.length → L.getD i 0 < 256) (j : Nat) (hj : j < (listFrom L org L.length 0).length) :
    ∃ X : ByteArray, (listFrom L org L.length 0).getD j ByteArray.empty = X ∧ 18 ≤ X.size ∧ X.size ≤ 27 ∧ X.extract 15 X.size = strOf ((wordsFrom' L org L.length 0).getD j []) := by
  rw [list_pos] at hj ⊢
  rw [words_pos]
  have hj' : j < (posFrom L org L.length 0).length := by simpa using hj
  have hp := posFrom_lt (L := L) (org := org) _ _ _ (List.getElem_mem hj')
  obtain ⟨h1, h2, h3⟩ := line_word (org := org) hb hp
  refine ⟨_, rfl, ?_, ?_, ?_⟩
  all_goals simp only [List.getD, List.getElem?_map, List.getElem?_eq_getElem hj', Option.map_some, Option.getD_some]
  · exact h2
  · exact h3
  · rw [h1, strOf_data]

theorem list_len {L : List Nat} {org : Nat} : (listFrom L org L.length 0).length = (wordsFrom' L org L.length 0).length ∧ (listFrom L org L.length 0).length ≤ L.length := by
  rw [list_pos, words_pos]
  simp [posFrom_len]

set_option maxRecDepth 100000 in
set_option maxHeartbeats 1600000 in
theorem walkFnListing (HI : ImplList) (HA : ImplAsm) (a : Option Addr) (len cap : Nat) (z : List Int) (w : World) (hc : CodeRow w.heap.size w a len z) :
    Calls Try.prog 4 #[.slice a len cap] w fun e w' => e = .returned (.bool true) ∧ Below w.heap.size w w' := by
  have hl := hc.1
  have hbig : decide ((1048576 : Int) < len) = false := by simp; omega
  go_enter Try.func4, Try.ntmps4
  go_wp2_with fail
  refine (bigCode_any _ _ _ _).mono ?_
  rintro e w' ⟨rfl, rfl⟩
  rw [hbig]
  clear hbig
  go_wp2_with fail
  refine (drawList_any w.heap.size a len cap z _ hc (Nat.le_refl _)).mono ?_
  rintro e w1 ⟨b, c, L, org, hLc, hL, hp, rfl, hr1, k1⟩
  clear hc hl
  go_wp2_with fail
  refine (HI b c org L _ hLc hL hp hr1).mono ?_
  rintro e w2 ⟨v2, rfl, o2, b2⟩
  have k2 := k1.trans (b2.mono k1.size)
  have hr2 := hr1.below b2
  have hbs := hr1.1
  clear b2 k1 hr1
  by_cases hlong : (1024 : Int) < (L.length : Int)
  · have hlst : listing L org = [] := if_pos (by omega)
    rw [hlst] at o2
    obtain ⟨a2, c2, rfl, _⟩ := strs_at o2
    have hz : ([] : List ByteArray).length = 0 := rfl
    rw [hz]
    clear hz o2 hlst
    go_wp2
    go_ret
    exact ⟨rfl, k2⟩
  · have hlst : listing L org = listFrom L org L.length 0 := if_neg (by omega)
    rw [hlst] at o2
    have hat := fun j hj => list_at (org := org) hbs j hj
    obtain ⟨hl1, hl2⟩ := list_len (L := L) (org := org)
    have hback := fun ht => listing_back (org := org) hbs (by omega) ht
    obtain ⟨F, hF⟩ : ∃ F, listFrom L org L.length 0 = F := ⟨_, rfl⟩
    obtain ⟨W, hW⟩ : ∃ W, wordsFrom' L org L.length 0 = W := ⟨_, rfl⟩
    rw [hF] at o2 hl2
    rw [hF, hW] at hl1
    simp only [hF, hW] at hat hback
    clear hF hW hlst
    obtain ⟨a2, c2, rfl, hcl⟩ := strs_at o2
    have HAT := Lib.hid hat
    have HBK := Lib.hid hback
    have HCL := Lib.hid hcl
    clear hat hback hcl o2
    go_wp2
    go_loop [6, 7] (fun tx i => ∃ (j : Nat) (S : ByteArray), j ≤ F.length ∧ S.size ≤ 20 * j ∧ i = .int .i64 j ∧ tx = .string S ∧ Hid (S = strOf (saidText (W.take j)))) (fun _ i => F.length - (intOf i).toNat)
    case atStart => exact ⟨0, ByteArray.empty, Nat.zero_le _, by simp, rfl, rfl, Lib.hid rfl⟩
    case round =>
      obtain ⟨j, S, hj, hS, rfl, rfl, HS⟩ := hrel
      by_cases hp2 : j < F.length
      · obtain ⟨X, hX, x1, x2, hXe⟩ := HAT.out j hp2
        obtain ⟨g, rfl, hg, _, hcc⟩ := HCL.out (by omega)
        have hcj := hcc j hp2
        rw [hX] at hcj
        have hst := said_step W j (by omega)
        have HE := Lib.hid (show S ++ X.extract 15 X.size ++ ⟨#[32, 59, 32, 115, 97, 105, 100, 10]⟩ = strOf (saidText (W.take (j + 1))) by
          rw [hst, HS.out, hXe, show (⟨#[32, 59, 32, 115, 97, 105, 100, 10]⟩ : ByteArray) = strOf (saidL ++ [10]) from rfl, strOf_app, strOf_app, List.append_assoc])
        have xe : (X.extract 15 X.size).size = X.size - 15 := by rw [ByteArray.size_extract]; omega
        have hsz : (S ++ X.extract 15 X.size ++ ⟨#[32, 59, 32, 115, 97, 105, 100, 10]⟩).size ≤ 20 * (j + 1) := by
          rw [ByteArray.size_append, ByteArray.size_append, xe]
          show S.size + (X.size - 15) + 8 ≤ 20 * (j + 1)
          omega
        have HSZ := Lib.hid hsz
        have n18 : ¬ (X.size : Int) < 18 := by omega
        have n15 : ¬ (X.size : Int) < 15 := by omega
        have ij : (0 : Int) ≤ (j : Int) ∧ (j : Int) < (F.length : Int) := by omega
        clear hX hXe hcc hst hsz
        go_wp2
        go_round
        case rel => exact ⟨j + 1, _, by omega, HSZ.out, by go_num, rfl, Lib.hid HE.out⟩
        case measure => simp [intOf]; omega
      · have hjF : j = F.length := by omega
        have HS' := Lib.hid (show S = strOf (saidText W) by rw [HS.out, List.take_of_length_le (by omega)])
        by_cases hover : (20000 : Int) < (S.size : Int)
        · have has : assemble S org = ([], 1) := if_pos (by omega)
          have HA' := fun w => HA S org w hp (by omega)
          simp only [has] at HA'
          clear has
          go_wp2_with fail
          refine (HA' _).mono ?_
          rintro e w3 ⟨v3, rfl, o3, b3⟩
          obtain ⟨a3, c3, rfl⟩ := o3.len
          go_wp2
          go_ret
          exact ⟨rfl, k2.trans (b3.mono k2.size)⟩
        · have has : assemble S org = (L, 0) := by
            rw [HS'.out]
            exact HBK.out (by have e := HS'.out; have : S.size = (saidText W).length := by rw [e, strOf_size]
                              omega)
          have HA' := fun w => HA S org w hp (by omega)
          simp only [has] at HA'
          clear has
          go_wp2_with fail
          refine (HA' _).mono ?_
          rintro e w3 ⟨v3, rfl, o3, b3⟩
          have k3 := k2.trans (b3.mono k2.size)
          have hr3 := hr2.below b3
          obtain ⟨a3, c3, rfl⟩ := o3.len
          go_wp2_with fail
          refine (sameB_true a3 b c3 c L _ (by omega) o3.row.2 hr3).mono ?_
          rintro e w4 ⟨rfl, d4, rfl⟩
          go_wp2
          go_ret
          exact ⟨rfl, below_drewN k3 d4⟩

end Go.Proofs.Ytffhjoldiicgdaa

namespace Go.Proofs.Ytffhjoldiicgdaa
set_option linter.unusedVariables false
set_option linter.unusedSimpArgs false
open Go.ChangeShapes Go.WideShapes Go.RowKit

/-- A slice of bytes that came in: nil, or a row of cells. -/
def ByteRow (w : World) (a : Option Addr) (len cap : Nat) (zs : List Int) : Prop :=
  (a = none ∧ len = 0 ∧ cap = 0 ∧ zs = []) ∨
  ∃ x, a = some x ∧ len ≤ cap ∧ cap ≤ maxLen ∧ zs.length = cap ∧ (∀ i, i < zs.length → w.cell? (x.add i) = some (.int .u8 (zs.getD i 0))) ∧ ∀ n ∈ zs, (Lit.int .u8 n).wf = true

theorem code_of {w : World} {a : Option Addr} {len cap : Nat} {zs : List Int} (h : ByteRow w a len cap zs) (hl : len ≤ 1048576) : CodeRow w.heap.size w a len zs := by
  rcases h with ⟨rfl, rfl, rfl, rfl⟩ | ⟨x, rfl, h1, h2, h3, h4, h5⟩
  · exact ⟨by omega, fun h => by omega⟩
  · refine ⟨hl, fun h0 => ?_⟩
    obtain ⟨b, off, spot⟩ := x
    have hc := h4 0 (by omega)
    have hspot : spot = none := by simpa [Addr.add] using World.cell?_spot hc
    subst hspot
    have hadd : ∀ i, (⟨b, off, none⟩ : Addr).add i = ⟨b, off + i, none⟩ := fun i => by unfold Addr.add; split <;> simp_all
    refine ⟨b, off, rfl, World.block_lt_of_cell? w _ (by rw [hadd] at hc; exact hc), fun i hi => ?_⟩
    have hci := h4 i (by omega)
    rw [hadd] at hci
    have hmem : zs[i]?.getD 0 ∈ zs := by
      rw [List.getElem?_eq_getElem (by omega)]; exact List.getElem_mem _
    have hb := bounds_u8 (h5 _ hmem)
    exact ⟨by simpa [List.getD] using hci, hb.1, hb.2⟩

theorem row_len {w : World} {a : Option Addr} {len cap : Nat} {zs : List Int} (h : ByteRow w a len cap zs) : len ≤ 9223372036854775807 := by
  rcases h with ⟨_, rfl, _⟩ | ⟨x, _, h1, h2, _⟩
  · omega
  · unfold maxLen at h2; omega

end Go.Proofs.Ytffhjoldiicgdaa
