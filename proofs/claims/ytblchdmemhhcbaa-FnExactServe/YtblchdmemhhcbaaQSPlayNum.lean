/-
  The program's player in plain numbers: a processor at its bus, move by move.
-/
import Derived.Test.YtblchdmemhhcbaaQSStepNum
namespace Go.Proofs.Ytblchdmemhhcbaa
set_option linter.unusedVariables false
set_option linter.unusedSimpArgs false
open Go.RowKit

/-- A processor at its bus. -/
structure St where
  c : CpuN
  b : BusN

def inPage (base a : Nat) : Nat := base / 256 * 256 + a % 256

def St.rdAt (s : St) (a : Nat) : Nat × St := (s.b.get a, ⟨s.c, s.b.rd a⟩)
def St.wrAt (s : St) (a d : Nat) : St := ⟨s.c, s.b.put a d⟩
def St.fetch (s : St) : Nat × St := (s.b.get s.c.PC, ⟨{ s.c with PC := (s.c.PC + 1) % 65536 }, s.b.rd s.c.PC⟩)
def St.idle (s : St) : St := ⟨s.c, s.b.rd s.c.PC⟩
def St.idleStk (s : St) : St := ⟨s.c, s.b.rd (stk s.c.S)⟩
def St.push (s : St) (d : Nat) : St := ⟨{ s.c with S := (s.c.S + 255) % 256 }, s.b.put (stk s.c.S) d⟩
def St.pull (s : St) : Nat × St := (s.b.get (stk (s.c.S + 1)), ⟨{ s.c with S := (s.c.S + 1) % 256 }, s.b.rd (stk (s.c.S + 1))⟩)
def St.fetchW (s : St) : Nat × St := (word s.fetch.1 s.fetch.2.fetch.1, s.fetch.2.fetch.2)
def St.readW (s : St) (a : Nat) : Nat × St :=
  (word (s.b.get a) ((s.b.rd a).get (inPage a ((a + 1) % 65536))), ⟨s.c, (s.b.rd a).rd (inPage a ((a + 1) % 65536))⟩)
def St.pushPC (s : St) : St := (s.push (s.c.PC / 256)).push (s.c.PC % 256)
def St.pullPC (s : St) : St := ⟨{ s.pull.2.pull.2.c with PC := word s.pull.1 s.pull.2.pull.1 }, s.pull.2.pull.2.b⟩
def St.zero (s : St) (i : Nat) : Nat × St := ((s.fetch.1 + i) % 256, ⟨s.fetch.2.c, s.fetch.2.b.rd s.fetch.1⟩)
def St.indexed (s : St) (base i : Nat) (k : Int) : Nat × St :=
  ((base + i) % 65536, if inPage base ((base + i) % 65536) ≠ (base + i) % 65536 ∨ k ≠ 2 then ⟨s.c, s.b.rd (inPage base ((base + i) % 65536))⟩ else s)
def St.place (s : St) (m k : Int) : Nat × St :=
  if m = 2 then (s.c.PC, ⟨{ s.c with PC := (s.c.PC + 1) % 65536 }, s.b⟩)
  else if m = 3 then s.fetch
  else if m = 4 then s.zero s.c.X
  else if m = 5 then s.zero s.c.Y
  else if m = 6 then s.fetchW
  else if m = 7 then s.fetchW.2.indexed s.fetchW.1 s.c.X k
  else if m = 8 then s.fetchW.2.indexed s.fetchW.1 s.c.Y k
  else if m = 10 then (s.zero s.c.X).2.readW (s.zero s.c.X).1
  else (s.fetch.2.readW s.fetch.1).2.indexed (s.fetch.2.readW s.fetch.1).1 s.c.Y k
def CpuN.pk (c : CpuN) (brk : Bool) : Nat := (pkV c.N c.V brk c.D c.I c.Z c.C).toNat
def St.inter (s : St) (vec : Nat) (brk : Bool) : St :=
  let t := s.pushPC.push (s.pushPC.c.pk brk)
  ⟨{ t.c with I := true, PC := (t.readW vec).1 }, (t.readW vec).2.b⟩
def CpuN.unpack (c : CpuN) (d : Nat) : CpuN := { c with N := hasB d 128, V := hasB d 64, D := hasB d 8, I := hasB d 4, Z := hasB d 2, C := hasB d 1 }

end Go.Proofs.Ytblchdmemhhcbaa
