/-
  Contracts over the program: a listing of bytes (Listing), the model's.
-/
import Derived.Test.YtffhjoldiicgdaaAsmText
import Derived.Test.YtffhjoldiicgdaaSpecCut
namespace Go.Proofs.Ytffhjoldiicgdaa
set_option linter.unusedVariables false
set_option linter.unusedSimpArgs false
open Go.RowKit

/-- Bytes as digits, each with a blank ahead. -/
def bytesL : List Nat → List UInt8
  | [] => []
  | b :: r => 32 :: hexL 2 b ++ bytesL r

def padL (l : List UInt8) : List UInt8 := l ++ List.replicate (15 - l.length) 32

def lineL (pc : Nat) (bs : List Nat) : List UInt8 := padL (hexL 4 pc ++ [58] ++ bytesL bs)

def textAt (L : List Nat) (org k : Nat) : ByteArray := showOp (L.length - k) (L.getD k 0) (L.getD (k + 1) 0) (L.getD (k + 2) 0) ((org + k) % 65536)

def stepAt (L : List Nat) (org k : Nat) : Nat := if (textAt L org k).toList.isEmpty then 1 else (opSize (L.getD k 0)).toNat

def wordAt (L : List Nat) (org k : Nat) : ByteArray := if (textAt L org k).toList.isEmpty then ⟨#[46, 98, 121, 116, 101, 32, 36]⟩ ++ strOf (hexL 2 (L.getD k 0)) else textAt L org k

def lineAt (L : List Nat) (org k : Nat) : ByteArray := strOf (lineL ((org + k) % 65536) ((L.drop k).take (stepAt L org k))) ++ wordAt L org k

def listFrom (L : List Nat) (org : Nat) : Nat → Nat → List ByteArray
  | 0, _ => []
  | f + 1, k => if k < L.length then lineAt L org k :: listFrom L org f (k + stepAt L org k) else []

def listing (L : List Nat) (org : Nat) : List ByteArray := if 1024 < L.length then [] else listFrom L org L.length 0

theorem empty_iff (s : ByteArray) : s.toList.isEmpty = decide (s.size = 0) := by
  rw [ByteArray.toList_eq]
  cases h : s.data.toList.isEmpty with
  | true => 
    have : s.data.toList = [] := by simpa using h
    have h2 : s.size = 0 := by show s.data.size = 0; rw [← Array.length_toList, this]; rfl
    simp [h2]
  | false =>
    have h2 : s.size ≠ 0 := fun e => by
      have : s.data.toList.length = 0 := by rw [Array.length_toList]; exact e
      rw [List.length_eq_zero_iff] at this
      rw [this] at h
      simp at h
    simp [h2]

theorem textAt_full {L : List Nat} {org k : Nat} (hb : ∀ i, i < L.length → L.getD i 0 < 256) (hk : k < L.length) (h : (textAt L org k).toList.isEmpty = false) :
    1 ≤ opSize (L.getD k 0) ∧ opSize (L.getD k 0) ≤ 3 ∧ k + (opSize (L.getD k 0)).toNat ≤ L.length := by
  have h3 := (opSize_range (hb k hk))
  unfold textAt showOp at h
  split at h
  · rw [empty_iff] at h; simp at h
  · omega

theorem stepAt_pos {L : List Nat} {org k : Nat} (hb : ∀ i, i < L.length → L.getD i 0 < 256) (hk : k < L.length) : 1 ≤ stepAt L org k ∧ stepAt L org k ≤ 3 ∧ k + stepAt L org k ≤ L.length := by
  unfold stepAt
  split
  · omega
  · rename_i h
    have := textAt_full hb hk (by simpa using h)
    omega

theorem listFrom_fuel {L : List Nat} {org : Nat} (hb : ∀ i, i < L.length → L.getD i 0 < 256) : ∀ (f f' k : Nat), L.length ≤ k + f → L.length ≤ k + f' → listFrom L org f k = listFrom L org f' k
  | 0, 0, k, _, _ => rfl
  | 0, f' + 1, k, h, _ => by rw [listFrom, listFrom, if_neg (by omega)]
  | f + 1, 0, k, _, h => by rw [listFrom, listFrom, if_neg (by omega)]
  | f + 1, f' + 1, k, h1, h2 => by
    rw [listFrom, listFrom]
    by_cases hk : k < L.length
    · rw [if_pos hk, if_pos hk]
      have := stepAt_pos (org := org) hb hk
      rw [listFrom_fuel hb f f' _ (by omega) (by omega)]
    · rw [if_neg hk, if_neg hk]

theorem listFrom_step {L : List Nat} {org k : Nat} (hb : ∀ i, i < L.length → L.getD i 0 < 256) (hk : k < L.length) : listFrom L org (L.length - k) k = lineAt L org k :: listFrom L org (L.length - (k + stepAt L org k)) (k + stepAt L org k) := by
  obtain ⟨f, hf⟩ : ∃ f, L.length - k = f + 1 := ⟨L.length - k - 1, by omega⟩
  have := stepAt_pos (org := org) hb hk
  rw [hf, listFrom, if_pos hk, listFrom_fuel hb f (L.length - (k + stepAt L org k)) _ (by omega) (by omega)]

theorem bytesL_step (bs : List Nat) (j : Nat) (h : j < bs.length) : bytesL (bs.take (j + 1)) = bytesL (bs.take j) ++ (32 :: hexL 2 (bs.getD j 0)) := by
  induction bs generalizing j with
  | nil => simp at h
  | cons b r ih =>
    cases j with
    | zero => simp [bytesL]
    | succ j =>
      have := ih j (by simpa using h)
      simp only [List.take_succ_cons, bytesL, this]
      simp [List.getD]

theorem bytesL_len (bs : List Nat) : (bytesL bs).length = 3 * bs.length := by
  induction bs with
  | nil => rfl
  | cons b r ih => simp [bytesL, hexL_length, ih]; omega

def szOf : Value → Nat
  | .string x => x.size
  | _ => 0

theorem own_kept {w w' : World} {base : Nat} {v : Value} {L : List ByteArray} (h : OwnStrs w base v L) (hb : Below w.heap.size w w') : OwnStrs w' base v L := by
  refine World.ownsRow.kept h (row := none) ⟨hb.os, hb.tape, hb.output, hb.size, fun i hi _ => hb.block i hi⟩ ?_
  cases v.ownBlock with
  | none => exact .inl rfl
  | some g => exact .inr (by simp)

theorem strOf_append (a b : List UInt8) : strOf a ++ strOf b = strOf (a ++ b) := by
  apply ByteArray.ext
  simp [strOf, ByteArray.data_append]

theorem hexText_named (x d : Nat) (hx : x ≤ 65536) (h1 : 1 ≤ d) (h8 : d ≤ 8) : ∃ t : ByteArray, t.size = d ∧ Hid (t = strOf (hexL d x)) ∧ ∀ w, Calls Try.prog 36 #[.int .i64 x, .int .i64 d] w fun e w' => e = .returned (.string t) ∧ w = w' :=
  ⟨_, hexL_size d x, Lib.hid rfl, fun w => specHexText_yes x d (by omega) h1 h8 w⟩

theorem RowB.byte {w : World} {a : Option Addr} {L : List Nat} (h : RowB w a L) (i : Nat) : L.getD i 0 < 256 := by
  by_cases hi : i < L.length
  · exact h.1 i hi
  · simp [List.getD, List.getElem?_eq_none (by omega : L.length ≤ i)]

theorem three_at {w : World} {g o : Nat} {L : List Nat} {k : Nat} (h : RowB w (some ⟨g, o, none⟩) L) (hk : k < L.length) : Three w (some ⟨g, o + k, none⟩) (L.length - k) (L.getD k 0) (L.getD (k + 1) 0) (L.getD (k + 2) 0) := by
  obtain ⟨g', o', e, hg, hc⟩ := h.2 (by omega)
  simp only [Option.some.injEq, Addr.mk.injEq, and_true] at e
  obtain ⟨rfl, rfl⟩ := e
  exact .inr ⟨g, o + k, rfl, hg, hc k hk, fun h2 => hc (k + 1) (by omega), fun h3 => hc (k + 2) (by omega)⟩

theorem RowB.cell {w : World} {g o : Nat} {L : List Nat} (h : RowB w (some ⟨g, o, none⟩) L) {k : Nat} (hk : k < L.length) : w.cell? ⟨g, o + k, none⟩ = some (.int .u8 (L.getD k 0 : Nat)) := by
  obtain ⟨g', o', e, hg, hc⟩ := h.2 (by omega)
  simp only [Option.some.injEq, Addr.mk.injEq, and_true] at e
  obtain ⟨rfl, rfl⟩ := e
  exact hc k hk

end Go.Proofs.Ytffhjoldiicgdaa
