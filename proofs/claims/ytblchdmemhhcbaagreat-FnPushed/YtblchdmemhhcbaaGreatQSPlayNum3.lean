/-
  The program's player in plain numbers: a whole step.
-/
import Derived.Test.YtblchdmemhhcbaaGreatQSRamQ
import Derived.Test.YtblchdmemhhcbaaGreatQSAluNum
namespace Go.Proofs.YtblchdmemhhcbaaGreat
set_option linter.unusedVariables false
set_option linter.unusedSimpArgs false
open Go.RowKit

def St.readP (s : St) (l : List UInt8) (m k : Int) : St := ⟨useL (s.place m k).2.c l ((s.place m k).2.b.get (s.place m k).1), (s.place m k).2.b.rd (s.place m k).1⟩
def St.writeP (s : St) (l : List UInt8) (m k : Int) : St := ⟨(s.place m k).2.c, (s.place m k).2.b.put (s.place m k).1 (storeL (s.place m k).2.c l)⟩
def St.modP (s : St) (l : List UInt8) (m k : Int) : St :=
  let a := (s.place m k).1
  let t := (s.place m k).2
  ⟨t.c.chg l (t.b.get a), ((t.b.rd a).put a (t.b.get a)).put a (chgB l (t.b.get a) t.c.C)⟩
def St.branchP (s : St) (l : List UInt8) : St :=
  if holdsL s.fetch.2.c l then
    ⟨{ s.fetch.2.c with PC := (s.fetch.2.c.PC + offN s.fetch.1) % 65536 },
      if inPage s.fetch.2.c.PC ((s.fetch.2.c.PC + offN s.fetch.1) % 65536) = (s.fetch.2.c.PC + offN s.fetch.1) % 65536 then s.fetch.2.idle.b else s.fetch.2.idle.b.rd (inPage s.fetch.2.c.PC ((s.fetch.2.c.PC + offN s.fetch.1) % 65536))⟩
  else s.fetch.2
def St.jumpP (s : St) (m : Int) : St :=
  if m = 9 then ⟨{ s.fetchW.2.c with PC := (s.fetchW.2.readW s.fetchW.1).1 }, (s.fetchW.2.readW s.fetchW.1).2.b⟩ else ⟨{ s.fetchW.2.c with PC := s.fetchW.1 }, s.fetchW.2.b⟩
def St.subP (s : St) : St :=
  let t := s.fetch.2.idleStk.pushPC
  ⟨{ t.c with PC := word s.fetch.1 (t.b.get t.c.PC) }, t.b.rd t.c.PC⟩
def St.backP (s : St) : St := s.idle.idleStk.pullPC.fetch.2
def St.rtiP (s : St) : St :=
  let t := s.idle.idleStk.pull
  (⟨t.2.c.unpack t.1, t.2.b⟩ : St).pullPC
def St.brkP (s : St) : St := s.fetch.2.inter 65534 true
def St.pushP (s : St) (l : List UInt8) : St := if l == [80, 72, 80] then s.idle.push (s.idle.c.pk true) else s.idle.push s.idle.c.A
def St.pullP (s : St) (l : List UInt8) : St :=
  let t := s.idle.idleStk.pull
  if l == [80, 76, 80] then ⟨t.2.c.unpack t.1, t.2.b⟩ else ⟨{ t.2.c with A := t.1 }.nz t.1, t.2.b⟩

end Go.Proofs.YtblchdmemhhcbaaGreat

namespace Go.Proofs.YtblchdmemhhcbaaGreat
set_option linter.unusedVariables false
set_option linter.unusedSimpArgs false
open Go.RowKit

def St.kindP (f : St) (n : Nat) : St :=
  let l := (opName n).toList
  let m := opMode n
  let q := opKind n
  if q = 1 then ⟨impL f.c l m, f.b.rd f.c.PC⟩
  else if q = 2 then f.readP l m q
  else if q = 3 then f.writeP l m q
  else if q = 4 then f.modP l m q
  else if q = 5 then f.branchP l
  else if q = 6 then f.jumpP m
  else if q = 7 then f.subP
  else if q = 8 then f.backP
  else if q = 9 then f.rtiP
  else if q = 10 then f.brkP
  else if q = 11 then f.pushP l
  else f.pullP l

def St.stepP (s : St) (n : Nat) : St := if opKind n = 0 then s else s.fetch.2.kindP n

end Go.Proofs.YtblchdmemhhcbaaGreat
