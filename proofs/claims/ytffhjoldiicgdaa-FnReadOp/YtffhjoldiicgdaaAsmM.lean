/-
  Contracts over the program: the bytes of an operation whose text shows a number (impl.operationBytes).
-/
import Derived.Test.YtffhjoldiicgdaaAsmL
import Derived.Test.YtffhjoldiicgdaaOpI
namespace Go.Proofs.Ytffhjoldiicgdaa
set_option linter.unusedVariables false
set_option linter.unusedSimpArgs false
open Go.RowKit

set_option maxRecDepth 100000 in
theorem opB_one (c N pc : Nat) (m : Int) (hz : (sizeOfM m == 1) = true) (hc : c < 256) (w : World) :
    Calls Try.prog 41 #[.int .u8 c, .int .i64 m, .int .i64 N, .int .u16 pc] w fun e w' => e = .returned (.tuple #[.slice (some ⟨w.heap.size, 0, none⟩) 1 1, .bool true]) ∧ w' = w.alloc (.cells #[.int .u8 c] 5) := by
  go_enter Try.func41, Try.ntmps41
  go_wp2_with fail
  refine (implSizeM_any m _).mono ?_
  rintro e w' ⟨rfl, rfl⟩
  generalize sizeOfM m = z at hz ⊢
  go_wp2
  go_ret2
  exact ⟨rfl, rfl⟩

set_option maxRecDepth 100000 in
theorem opB_two (c N pc : Nat) (m : Int) (hz1 : (sizeOfM m == 1) = false) (hm : (m == 12) = false) (hz : (sizeOfM m == 2) = true) (hc : c < 256) (hN : N < 65536) (w : World) :
    Calls Try.prog 41 #[.int .u8 c, .int .i64 m, .int .i64 N, .int .u16 pc] w fun e w' => e = .returned (.tuple #[.slice (some ⟨w.heap.size, 0, none⟩) 2 2, .bool true]) ∧ w' = w.alloc (.cells #[.int .u8 c, .int .u8 ((N % 256 : Nat) : Int)] 5) := by
  go_enter Try.func41, Try.ntmps41
  go_wp2_with fail
  refine (implSizeM_any m _).mono ?_
  rintro e w' ⟨rfl, rfl⟩
  generalize sizeOfM m = z at hz hz1 ⊢
  go_wp2
  go_ret2
  exact ⟨rfl, by simp⟩

set_option maxRecDepth 100000 in
theorem opB_three (c N pc : Nat) (m : Int) (hz1 : (sizeOfM m == 1) = false) (hm : (m == 12) = false) (hz : (sizeOfM m == 2) = false) (hc : c < 256) (hN : N < 65536) (w : World) :
    Calls Try.prog 41 #[.int .u8 c, .int .i64 m, .int .i64 N, .int .u16 pc] w fun e w' => e = .returned (.tuple #[.slice (some ⟨w.heap.size, 0, none⟩) 3 3, .bool true]) ∧ w' = w.alloc (.cells #[.int .u8 c, .int .u8 ((N % 256 : Nat) : Int), .int .u8 ((N / 256 : Nat) : Int)] 5) := by
  go_enter Try.func41, Try.ntmps41
  go_wp2_with fail
  refine (implSizeM_any m _).mono ?_
  rintro e w' ⟨rfl, rfl⟩
  generalize sizeOfM m = z at hz hz1 ⊢
  go_wp2
  go_ret2
  exact ⟨rfl, by simp⟩

/-- How far a branch goes, as the program reckons it. -/
def wayY (N pc : Nat) : Int := IntKind.i16.wrap (IntKind.u16.wrap (IntKind.u16.wrap ((N : Int) - pc) - 2))

theorem w16 (n : Int) : IntKind.u16.wrap n = n % 65536 := by simp [IntKind.wrap, IntKind.bits, IntKind.signed]
theorem wi16 (n : Int) : IntKind.i16.wrap n = (n + 32768) % 65536 - 32768 := by
  simp only [IntKind.wrap, IntKind.bits, IntKind.signed]
  simp
  split <;> omega
theorem wi8 (n : Int) : IntKind.i8.wrap n = (n + 128) % 256 - 128 := by
  simp only [IntKind.wrap, IntKind.bits, IntKind.signed]
  simp
  split <;> omega
theorem w8 (n : Int) : IntKind.u8.wrap n = n % 256 := by simp [IntKind.wrap, IntKind.bits, IntKind.signed]

/-- Is a branch to N near enough? -/
def relFit (N pc : Nat) : Bool := decide (((N : Int) - pc - 2 + 128) % 65536 < 256)

theorem way_fit (N pc : Nat) : (wayY N pc != IntKind.i16.wrap (IntKind.i8.wrap (wayY N pc))) = !relFit N pc := by
  unfold wayY relFit
  rw [w16, w16, wi16, wi8, wi16]
  rw [Bool.eq_iff_iff]
  simp only [bne_iff_ne, ne_eq, Bool.not_eq_true', decide_eq_false_iff_not]
  omega

theorem way_byte (N pc : Nat) : IntKind.u8.wrap (wayY N pc) = ((((N : Int) - pc - 2) % 256).toNat : Int) := by
  unfold wayY
  rw [w16, w16, wi16, w8]
  omega

set_option maxRecDepth 100000 in
theorem opB_far (c N pc : Nat) (m : Int) (hm : (m == 12) = true) (hz : sizeOfM m = 2) (hc : c < 256) (hN : N < 65536) (hp : pc < 65536) (hf : relFit N pc = false) (w : World) :
    Calls Try.prog 41 #[.int .u8 c, .int .i64 m, .int .i64 N, .int .u16 pc] w fun e w' => e = .returned (.tuple #[.slice none 0 0, .bool false]) ∧ w' = w := by
  have HZ := Lib.hid hz
  have ht := way_fit N pc
  rw [hf] at ht
  unfold wayY at ht
  clear hz hf
  go_enter Try.func41, Try.ntmps41
  go_wp2_with fail
  refine (implSizeM_any m _).mono ?_
  rintro e w' ⟨rfl, rfl⟩
  rw [HZ.out]
  go_wp2
  go_ret2
  exact ⟨rfl, rfl⟩

set_option maxRecDepth 100000 in
theorem opB_near (c N pc : Nat) (m : Int) (hm : (m == 12) = true) (hz : sizeOfM m = 2) (hc : c < 256) (hN : N < 65536) (hp : pc < 65536) (hf : relFit N pc = true) (w : World) :
    Calls Try.prog 41 #[.int .u8 c, .int .i64 m, .int .i64 N, .int .u16 pc] w fun e w' => e = .returned (.tuple #[.slice (some ⟨w.heap.size, 0, none⟩) 2 2, .bool true]) ∧ w' = w.alloc (.cells #[.int .u8 c, .int .u8 (IntKind.u8.wrap (wayY N pc))] 5) := by
  have HZ := Lib.hid hz
  have ht := way_fit N pc
  rw [hf] at ht
  unfold wayY at ht
  clear hz hf
  go_enter Try.func41, Try.ntmps41
  go_wp2_with fail
  refine (implSizeM_any m _).mono ?_
  rintro e w' ⟨rfl, rfl⟩
  rw [HZ.out]
  go_wp2
  go_ret2
  exact ⟨rfl, rfl⟩

/-- The bytes of an operation whose text shows N. -/
def iBytes (c : Nat) (m : Int) (N pc : Nat) : Option (List Nat) :=
  if m = 12 then (if relFit N pc = true then some [c, (((N : Int) - pc - 2) % 256).toNat] else none) else some ([c, N % 256, N / 256].take (sizeOfM m).toNat)

theorem ownNew (w : World) (L : List Nat) (hL : L.length ≤ 3) (hb : ∀ i, i < L.length → L.getD i 0 < 256) : OwnB (w.alloc (.cells (L.map u8V).toArray 5)) w.heap.size (.slice (some ⟨w.heap.size, 0, none⟩) L.length L.length) L :=
  ⟨hb, by simp, .inr ⟨w.heap.size, L.length, (L.map u8V).toArray, rfl, Nat.le_refl _, heap_alloc_new w _, Nat.le_refl _, by unfold maxLen; omega, by simp, by simp [List.take_of_length_le]⟩⟩

theorem ownNil (w : World) (B : Nat) : OwnB w B (.slice none 0 0) [] := ⟨fun i hi => by simp at hi, World.ownsRow_nil _ _ _ _⟩

theorem opB_any (c N pc : Nat) (m : Int) (hc : c < 256) (hN : N < 65536) (hp : pc < 65536) (w : World) :
    Calls Try.prog 41 #[.int .u8 c, .int .i64 m, .int .i64 N, .int .u16 pc] w fun e w' => ∃ v, e = .returned (.tuple #[v, .bool (iBytes c m N pc).isSome]) ∧ OwnB w' w.heap.size v ((iBytes c m N pc).getD []) ∧ Below w.heap.size w w' := by
  by_cases hm : m = 12
  · have hz : sizeOfM m = 2 := by subst hm; rfl
    have hb : (m == 12) = true := by simpa using hm
    cases hf : relFit N pc with
    | false =>
      have e : iBytes c m N pc = none := by simp [iBytes, hm, hf]
      rw [e]
      refine (opB_far c N pc m hb hz hc hN hp hf w).mono ?_
      rintro e w' ⟨rfl, rfl⟩
      exact ⟨_, rfl, ownNil _ _, Below.refl _ _⟩
    | true =>
      have e : iBytes c m N pc = some [c, (((N : Int) - pc - 2) % 256).toNat] := by simp [iBytes, hm, hf]
      rw [e]
      refine (opB_near c N pc m hb hz hc hN hp hf w).mono ?_
      rintro e w' ⟨rfl, rfl⟩
      rw [way_byte]
      exact ⟨_, rfl, ownNew w [c, (((N : Int) - pc - 2) % 256).toNat] (by simp) (fun i hi => by
        rcases i with _ | _ | i
        · exact hc
        · show (((N : Int) - pc - 2) % 256).toNat < 256; omega
        · exact absurd hi (by simp)), (Below.refl _ _).alloc (Nat.le_refl _) _⟩
  · have hb : (m == 12) = false := by simpa using hm
    have e : iBytes c m N pc = some ([c, N % 256, N / 256].take (sizeOfM m).toNat) := by simp [iBytes, hm]
    rw [e]
    have h3 : ∀ i, [c, N % 256, N / 256].getD i 0 < 256 := fun i => by
      rcases i with _ | _ | _ | i
      · exact hc
      · show N % 256 < 256; omega
      · show N / 256 < 256; omega
      · show 0 < 256; omega
    have h13 : sizeOfM m = 1 ∨ sizeOfM m = 2 ∨ sizeOfM m = 3 := by
      unfold sizeOfM
      repeat' split
      all_goals omega
    rcases h13 with z | z | z
    · rw [z]
      refine (opB_one c N pc m (by rw [z]; rfl) hc w).mono ?_
      rintro e w' ⟨rfl, rfl⟩
      exact ⟨_, rfl, ownNew w [c] (by simp) (fun i hi => by rcases i with _ | i; exact hc; simp at hi), (Below.refl _ _).alloc (Nat.le_refl _) _⟩
    · rw [z]
      refine (opB_two c N pc m (by rw [z]; rfl) hb (by rw [z]; rfl) hc hN w).mono ?_
      rintro e w' ⟨rfl, rfl⟩
      exact ⟨_, rfl, ownNew w [c, N % 256] (by simp) (fun i hi => by rcases i with _ | _ | i; exact h3 0; exact h3 1; exact absurd hi (by simp)), (Below.refl _ _).alloc (Nat.le_refl _) _⟩
    · rw [z]
      refine (opB_three c N pc m (by rw [z]; rfl) hb (by rw [z]; rfl) hc hN w).mono ?_
      rintro e w' ⟨rfl, rfl⟩
      exact ⟨_, rfl, ownNew w [c, N % 256, N / 256] (by simp) (fun i _ => h3 i), (Below.refl _ _).alloc (Nat.le_refl _) _⟩

end Go.Proofs.Ytffhjoldiicgdaa
