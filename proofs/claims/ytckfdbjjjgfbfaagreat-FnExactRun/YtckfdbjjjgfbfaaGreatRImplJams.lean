import Derived.Test.YtckfdbjjjgfbfaaGreatRPhr
import Derived.Test.YtckfdbjjjgfbfaaGreatRPlayS
import Derived.Test.YtckfdbjjjgfbfaaGreatROpI
import Derived.Test.YtckfdbjjjgfbfaaGreatRCycRow
import Derived.Test.YtckfdbjjjgfbfaaGreatRPlayX
import Derived.Test.YtckfdbjjjgfbfaaGreatRPlayW
import Derived.Test.YtckfdbjjjgfbfaaGreatRPlayU
import Derived.Test.YtckfdbjjjgfbfaaGreatROpJ
set_option linter.unusedVariables false
set_option linter.unusedSimpArgs false
namespace Go.Proofs.YtckfdbjjjgfbfaaGreat
open Go.RowKit
theorem rd_of (b:BusN) {a a':Nat} (h:a % 65536=a' % 65536):b.rd a=b.rd a':=by unfold BusN.rd BusN.get BusN.spot;rw[h]
theorem qAA (b:BusN) {a a':Nat} (h:a % 65536=a' % 65536):b.get a=b.get a':=by unfold BusN.get BusN.spot;rw[h]
theorem iDA (b:BusN) (a x:Nat):(b.rd a).get x=b.get x:=rfl
theorem mAA {s s':Nat} (h:s % 256=s' % 256):stk s=stk s':=by unfold stk;rw[h]
theorem St.ext' {c c':CpuN} {b b':BusN} (h1:c=c') (h2:b=b'):(⟨c,b⟩:St)=⟨c',b'⟩:=by rw[h1,h2]
def CpuN.atPC (c:CpuN) (q:Nat):CpuN:={ c with PC:=q }
theorem eMA {p:Prop} [Decidable p] {a b a' b':CpuN} {q:Nat} (h1:a=a'.atPC q) (h2:b=b'.atPC q):(if p then a else b)=(if p then a' else b').atPC q:=by split<;>assumption
theorem gOA (c:CpuN) (l:List UInt8) (m:Nat) (q:Nat):useL { c with PC:=q } l m={ useL c l m with PC:=q }:=by
 show _=CpuN.atPC (useL c l m) q;unfold useL;repeat(first|(refine eMA rfl ?_)|rfl)
theorem dBB (c:CpuN) (l:List UInt8) (q:Nat):regL { c with PC:=q } l={ regL c l with PC:=q }:=by
 show _=CpuN.atPC (regL c l) q;unfold regL;repeat(first|(refine eMA rfl ?_)|rfl)
theorem mZA (c:CpuN) (l:List UInt8) (q:Nat):flagL { c with PC:=q } l={ flagL c l with PC:=q }:=by
 show _=CpuN.atPC (flagL c l) q;unfold flagL;repeat(first|(refine eMA rfl ?_)|rfl)
theorem impLq (c:CpuN) (l:List UInt8) (m:Int) (q:Nat):impL { c with PC:=q } l m={ impL c l m with PC:=q }:=by
 show _=CpuN.atPC (impL c l m) q;unfold impL;refine eMA rfl ?_;rw[dBB,mZA];rfl
theorem eCB (c:CpuN) (l:List UInt8) (q:Nat):aBA { c with PC:=q } l=aBA c l:=by unfold aBA;rfl
def opB (b:BusN) (c:CpuN) (n:Nat):CpuN×BusN:=
 let l:=(lAA n).toList
 if eAA n=1 then ({ impL c l (hAA n) with PC:=(c.PC+1) % 65536 },b.rd (c.PC+1))
 else if eAA n=5 then gBA b c l
 else if eAA n=2\/eAA n=3\/eAA n=4 then dataN b c n
 else goN b c l (hAA n)
theorem oJB (b:BusN) (c:CpuN):opN b c=opB (b.rd c.PC) c (b.get c.PC):=rfl
theorem oDB {a:Nat} (ha:a < 65536):pAA a ((a+1) % 65536)=a / 256*256+(a+1) % 256:=by unfold pAA;omega
theorem nEB {z:Nat} (hz:z < 256):pAA z ((z+1) % 65536)=(z+1) % 256:=by unfold pAA;omega
theorem nXA (c:CpuN) (b:BusN) (hb:∀ a,b.get a < 256) (k:Int):(⟨{ c with PC:=(c.PC+1) % 65536 },b⟩:St).place 3 k=((kAA b c 3 k).1,⟨{ c with PC:=(c.PC+2) % 65536 },(kAA b c 3 k).2⟩):=by
 have E:∀ b:BusN,b.rd ((c.PC+1) % 65536)=b.rd (c.PC+1):=fun b=>rd_of b dQ
 have j:∀ b:BusN,b.get ((c.PC+1) % 65536)=b.get (c.PC+1):=fun b=>qAA b dQ
 have a1:∀ b:BusN,b.rd (((c.PC+1) % 65536+1) % 65536)=b.rd (c.PC+2):=fun b=>rd_of b dQ
 have O:∀ b:BusN,b.get (((c.PC+1) % 65536+1) % 65536)=b.get (c.PC+2):=fun b=>qAA b dQ
 have a0:∀ b:BusN,b.rd ((c.PC+1) % 65536+1)=b.rd (c.PC+2):=fun b=>rd_of b dQ
 have Q:∀ b:BusN,b.get ((c.PC+1) % 65536+1)=b.get (c.PC+2):=fun b=>qAA b dQ
 have H:∀ b:BusN,b.rd ((c.PC+2) % 65536)=b.rd (c.PC+2):=fun b=>rd_of b dQ
 have B:∀ b:BusN,b.get ((c.PC+2) % 65536)=b.get (c.PC+2):=fun b=>qAA b dQ
 have J:((c.PC+1) % 65536+1) % 65536=(c.PC+2) % 65536:=dQ;have e4:(c.PC+2+1) % 65536=(c.PC+3) % 65536:=dQ;have e5:((c.PC+2) % 65536+1) % 65536=(c.PC+3) % 65536:=dQ;simp[St.place,kAA,St.fetch,E,j,J]
theorem xXA (c:CpuN) (b:BusN) (hb:∀ a,b.get a < 256) (k:Int):(⟨{ c with PC:=(c.PC+1) % 65536 },b⟩:St).place 4 k=((kAA b c 4 k).1,⟨{ c with PC:=(c.PC+2) % 65536 },(kAA b c 4 k).2⟩):=by
 have E:∀ b:BusN,b.rd ((c.PC+1) % 65536)=b.rd (c.PC+1):=fun b=>rd_of b dQ
 have j:∀ b:BusN,b.get ((c.PC+1) % 65536)=b.get (c.PC+1):=fun b=>qAA b dQ
 have a1:∀ b:BusN,b.rd (((c.PC+1) % 65536+1) % 65536)=b.rd (c.PC+2):=fun b=>rd_of b dQ
 have O:∀ b:BusN,b.get (((c.PC+1) % 65536+1) % 65536)=b.get (c.PC+2):=fun b=>qAA b dQ
 have a0:∀ b:BusN,b.rd ((c.PC+1) % 65536+1)=b.rd (c.PC+2):=fun b=>rd_of b dQ
 have Q:∀ b:BusN,b.get ((c.PC+1) % 65536+1)=b.get (c.PC+2):=fun b=>qAA b dQ
 have H:∀ b:BusN,b.rd ((c.PC+2) % 65536)=b.rd (c.PC+2):=fun b=>rd_of b dQ
 have B:∀ b:BusN,b.get ((c.PC+2) % 65536)=b.get (c.PC+2):=fun b=>qAA b dQ
 have J:((c.PC+1) % 65536+1) % 65536=(c.PC+2) % 65536:=dQ;have e4:(c.PC+2+1) % 65536=(c.PC+3) % 65536:=dQ;have e5:((c.PC+2) % 65536+1) % 65536=(c.PC+3) % 65536:=dQ;simp[St.place,kAA,St.zero,St.fetch,E,j,J,idxN,iDA]
theorem vWA (c:CpuN) (b:BusN) (hb:∀ a,b.get a < 256) (k:Int):(⟨{ c with PC:=(c.PC+1) % 65536 },b⟩:St).place 5 k=((kAA b c 5 k).1,⟨{ c with PC:=(c.PC+2) % 65536 },(kAA b c 5 k).2⟩):=by
 have E:∀ b:BusN,b.rd ((c.PC+1) % 65536)=b.rd (c.PC+1):=fun b=>rd_of b dQ
 have j:∀ b:BusN,b.get ((c.PC+1) % 65536)=b.get (c.PC+1):=fun b=>qAA b dQ
 have a1:∀ b:BusN,b.rd (((c.PC+1) % 65536+1) % 65536)=b.rd (c.PC+2):=fun b=>rd_of b dQ
 have O:∀ b:BusN,b.get (((c.PC+1) % 65536+1) % 65536)=b.get (c.PC+2):=fun b=>qAA b dQ
 have a0:∀ b:BusN,b.rd ((c.PC+1) % 65536+1)=b.rd (c.PC+2):=fun b=>rd_of b dQ
 have Q:∀ b:BusN,b.get ((c.PC+1) % 65536+1)=b.get (c.PC+2):=fun b=>qAA b dQ
 have H:∀ b:BusN,b.rd ((c.PC+2) % 65536)=b.rd (c.PC+2):=fun b=>rd_of b dQ
 have B:∀ b:BusN,b.get ((c.PC+2) % 65536)=b.get (c.PC+2):=fun b=>qAA b dQ
 have J:((c.PC+1) % 65536+1) % 65536=(c.PC+2) % 65536:=dQ;have e4:(c.PC+2+1) % 65536=(c.PC+3) % 65536:=dQ;have e5:((c.PC+2) % 65536+1) % 65536=(c.PC+3) % 65536:=dQ;simp[St.place,kAA,St.zero,St.fetch,E,j,J,idxN,iDA]
theorem yXA (c:CpuN) (b:BusN) (hb:∀ a,b.get a < 256) (k:Int):(⟨{ c with PC:=(c.PC+1) % 65536 },b⟩:St).place 6 k=((kAA b c 6 k).1,⟨{ c with PC:=(c.PC+3) % 65536 },(kAA b c 6 k).2⟩):=by
 have E:∀ b:BusN,b.rd ((c.PC+1) % 65536)=b.rd (c.PC+1):=fun b=>rd_of b dQ
 have j:∀ b:BusN,b.get ((c.PC+1) % 65536)=b.get (c.PC+1):=fun b=>qAA b dQ
 have a1:∀ b:BusN,b.rd (((c.PC+1) % 65536+1) % 65536)=b.rd (c.PC+2):=fun b=>rd_of b dQ
 have O:∀ b:BusN,b.get (((c.PC+1) % 65536+1) % 65536)=b.get (c.PC+2):=fun b=>qAA b dQ
 have a0:∀ b:BusN,b.rd ((c.PC+1) % 65536+1)=b.rd (c.PC+2):=fun b=>rd_of b dQ
 have Q:∀ b:BusN,b.get ((c.PC+1) % 65536+1)=b.get (c.PC+2):=fun b=>qAA b dQ
 have H:∀ b:BusN,b.rd ((c.PC+2) % 65536)=b.rd (c.PC+2):=fun b=>rd_of b dQ
 have B:∀ b:BusN,b.get ((c.PC+2) % 65536)=b.get (c.PC+2):=fun b=>qAA b dQ
 have J:((c.PC+1) % 65536+1) % 65536=(c.PC+2) % 65536:=dQ;have e4:(c.PC+2+1) % 65536=(c.PC+3) % 65536:=dQ;have e5:((c.PC+2) % 65536+1) % 65536=(c.PC+3) % 65536:=dQ;have hw:word (b.get (c.PC+1)) (b.get (c.PC+2)) < 65536:=by have:=hb (c.PC+1);have:=hb (c.PC+2);unfold word;omega
 simp[St.place,kAA,baseN,St.fetchW,St.fetch,E,j,H,B,J,e4,e5,idxN,iDA,Nat.mod_eq_of_lt hw]
theorem xWA (c:CpuN) (b:BusN) (hb:∀ a,b.get a < 256) (k:Int):(⟨{ c with PC:=(c.PC+1) % 65536 },b⟩:St).place 7 k=((kAA b c 7 k).1,⟨{ c with PC:=(c.PC+3) % 65536 },(kAA b c 7 k).2⟩):=by
 have E:∀ b:BusN,b.rd ((c.PC+1) % 65536)=b.rd (c.PC+1):=fun b=>rd_of b dQ
 have j:∀ b:BusN,b.get ((c.PC+1) % 65536)=b.get (c.PC+1):=fun b=>qAA b dQ
 have a1:∀ b:BusN,b.rd (((c.PC+1) % 65536+1) % 65536)=b.rd (c.PC+2):=fun b=>rd_of b dQ
 have O:∀ b:BusN,b.get (((c.PC+1) % 65536+1) % 65536)=b.get (c.PC+2):=fun b=>qAA b dQ
 have a0:∀ b:BusN,b.rd ((c.PC+1) % 65536+1)=b.rd (c.PC+2):=fun b=>rd_of b dQ
 have Q:∀ b:BusN,b.get ((c.PC+1) % 65536+1)=b.get (c.PC+2):=fun b=>qAA b dQ
 have H:∀ b:BusN,b.rd ((c.PC+2) % 65536)=b.rd (c.PC+2):=fun b=>rd_of b dQ
 have B:∀ b:BusN,b.get ((c.PC+2) % 65536)=b.get (c.PC+2):=fun b=>qAA b dQ
 have J:((c.PC+1) % 65536+1) % 65536=(c.PC+2) % 65536:=dQ;have e4:(c.PC+2+1) % 65536=(c.PC+3) % 65536:=dQ;have e5:((c.PC+2) % 65536+1) % 65536=(c.PC+3) % 65536:=dQ;simp[St.place,kAA,baseN,St.fetchW,St.fetch,St.indexed,pAA,E,j,H,B,J,e4,e5,idxN,iDA];generalize word (b.get (c.PC+1)) (b.get (c.PC+2))=u;by_cases hk:k=2<;>by_cases hw:u / 256*256+(u+c.X) % 256=(u+c.X) % 65536<;>simp[hk,hw]
theorem zWA (c:CpuN) (b:BusN) (hb:∀ a,b.get a < 256) (k:Int):(⟨{ c with PC:=(c.PC+1) % 65536 },b⟩:St).place 8 k=((kAA b c 8 k).1,⟨{ c with PC:=(c.PC+3) % 65536 },(kAA b c 8 k).2⟩):=by
 have E:∀ b:BusN,b.rd ((c.PC+1) % 65536)=b.rd (c.PC+1):=fun b=>rd_of b dQ
 have j:∀ b:BusN,b.get ((c.PC+1) % 65536)=b.get (c.PC+1):=fun b=>qAA b dQ
 have a1:∀ b:BusN,b.rd (((c.PC+1) % 65536+1) % 65536)=b.rd (c.PC+2):=fun b=>rd_of b dQ
 have O:∀ b:BusN,b.get (((c.PC+1) % 65536+1) % 65536)=b.get (c.PC+2):=fun b=>qAA b dQ
 have a0:∀ b:BusN,b.rd ((c.PC+1) % 65536+1)=b.rd (c.PC+2):=fun b=>rd_of b dQ
 have Q:∀ b:BusN,b.get ((c.PC+1) % 65536+1)=b.get (c.PC+2):=fun b=>qAA b dQ
 have H:∀ b:BusN,b.rd ((c.PC+2) % 65536)=b.rd (c.PC+2):=fun b=>rd_of b dQ
 have B:∀ b:BusN,b.get ((c.PC+2) % 65536)=b.get (c.PC+2):=fun b=>qAA b dQ
 have J:((c.PC+1) % 65536+1) % 65536=(c.PC+2) % 65536:=dQ;have e4:(c.PC+2+1) % 65536=(c.PC+3) % 65536:=dQ;have e5:((c.PC+2) % 65536+1) % 65536=(c.PC+3) % 65536:=dQ;simp[St.place,kAA,baseN,St.fetchW,St.fetch,St.indexed,pAA,E,j,H,B,J,e4,e5,idxN,iDA];generalize word (b.get (c.PC+1)) (b.get (c.PC+2))=u;by_cases hk:k=2<;>by_cases hw:u / 256*256+(u+c.Y) % 256=(u+c.Y) % 65536<;>simp[hk,hw]
theorem jUA (c:CpuN) (b:BusN) (hb:∀ a,b.get a < 256) (k:Int):(⟨{ c with PC:=(c.PC+1) % 65536 },b⟩:St).place 10 k=((kAA b c 10 k).1,⟨{ c with PC:=(c.PC+2) % 65536 },(kAA b c 10 k).2⟩):=by
 have E:∀ b:BusN,b.rd ((c.PC+1) % 65536)=b.rd (c.PC+1):=fun b=>rd_of b dQ
 have j:∀ b:BusN,b.get ((c.PC+1) % 65536)=b.get (c.PC+1):=fun b=>qAA b dQ
 have a1:∀ b:BusN,b.rd (((c.PC+1) % 65536+1) % 65536)=b.rd (c.PC+2):=fun b=>rd_of b dQ
 have O:∀ b:BusN,b.get (((c.PC+1) % 65536+1) % 65536)=b.get (c.PC+2):=fun b=>qAA b dQ
 have a0:∀ b:BusN,b.rd ((c.PC+1) % 65536+1)=b.rd (c.PC+2):=fun b=>rd_of b dQ
 have Q:∀ b:BusN,b.get ((c.PC+1) % 65536+1)=b.get (c.PC+2):=fun b=>qAA b dQ
 have H:∀ b:BusN,b.rd ((c.PC+2) % 65536)=b.rd (c.PC+2):=fun b=>rd_of b dQ
 have B:∀ b:BusN,b.get ((c.PC+2) % 65536)=b.get (c.PC+2):=fun b=>qAA b dQ
 have J:((c.PC+1) % 65536+1) % 65536=(c.PC+2) % 65536:=dQ;have e4:(c.PC+2+1) % 65536=(c.PC+3) % 65536:=dQ;have e5:((c.PC+2) % 65536+1) % 65536=(c.PC+3) % 65536:=dQ;have hz:=hb (c.PC+1);have e6:pAA ((b.get (c.PC+1)+c.X) % 256) (((b.get (c.PC+1)+c.X) % 256+1) % 65536)=(b.get (c.PC+1)+c.X+1) % 256:=by unfold pAA;omega
 simp[St.place,kAA,St.zero,St.readW,St.fetch,E,j,J,idxN,iDA,e6]
theorem kUA (c:CpuN) (b:BusN) (hb:∀ a,b.get a < 256) (k:Int):(⟨{ c with PC:=(c.PC+1) % 65536 },b⟩:St).place 11 k=((kAA b c 11 k).1,⟨{ c with PC:=(c.PC+2) % 65536 },(kAA b c 11 k).2⟩):=by
 have E:∀ b:BusN,b.rd ((c.PC+1) % 65536)=b.rd (c.PC+1):=fun b=>rd_of b dQ
 have j:∀ b:BusN,b.get ((c.PC+1) % 65536)=b.get (c.PC+1):=fun b=>qAA b dQ
 have a1:∀ b:BusN,b.rd (((c.PC+1) % 65536+1) % 65536)=b.rd (c.PC+2):=fun b=>rd_of b dQ
 have O:∀ b:BusN,b.get (((c.PC+1) % 65536+1) % 65536)=b.get (c.PC+2):=fun b=>qAA b dQ
 have a0:∀ b:BusN,b.rd ((c.PC+1) % 65536+1)=b.rd (c.PC+2):=fun b=>rd_of b dQ
 have Q:∀ b:BusN,b.get ((c.PC+1) % 65536+1)=b.get (c.PC+2):=fun b=>qAA b dQ
 have H:∀ b:BusN,b.rd ((c.PC+2) % 65536)=b.rd (c.PC+2):=fun b=>rd_of b dQ
 have B:∀ b:BusN,b.get ((c.PC+2) % 65536)=b.get (c.PC+2):=fun b=>qAA b dQ
 have J:((c.PC+1) % 65536+1) % 65536=(c.PC+2) % 65536:=dQ;have e4:(c.PC+2+1) % 65536=(c.PC+3) % 65536:=dQ;have e5:((c.PC+2) % 65536+1) % 65536=(c.PC+3) % 65536:=dQ;have hz:=hb (c.PC+1);have e6:=nEB hz;simp[St.place,kAA,baseN,St.readW,St.fetch,St.indexed,E,j,J,idxN,iDA,e6];unfold pAA;generalize word (b.get (b.get (c.PC+1))) (b.get ((b.get (c.PC+1)+1) % 256))=u;have e7:(u+c.Y) % 65536 % 256=(u+c.Y) % 256:=dQ;rw[e7];by_cases hk:k=2<;>by_cases hw:u / 256*256+(u+c.Y) % 256=(u+c.Y) % 65536<;>simp[hk,hw]
theorem wCB (c:CpuN) (b:BusN) (hb:∀ a,b.get a < 256) (m k:Int) (hm:m=3\/m=4\/m=5\/m=6\/m=7\/m=8\/m=10\/m=11):(⟨{ c with PC:=(c.PC+1) % 65536 },b⟩:St).place m k=((kAA b c m k).1,⟨{ c with PC:=(c.PC+(jDA m).toNat) % 65536 },(kAA b c m k).2⟩):=by
 rcases hm with rfl|rfl|rfl|rfl|rfl|rfl|rfl|rfl
 ·exact nXA c b hb k
 ·exact xXA c b hb k
 ·exact vWA c b hb k
 ·exact yXA c b hb k
 ·exact xWA c b hb k
 ·exact zWA c b hb k
 ·exact jUA c b hb k
 ·exact kUA c b hb k
theorem wIB (c:CpuN) (hc:c.ok) (b:BusN) (hb:∀ a,b.get a < 256) (m:Int):(⟨{ c with PC:=(c.PC+1) % 65536 },b⟩:St).backP=⟨(goN b c [82,84,83] m).1,(goN b c [82,84,83] m).2⟩:=by
 obtain⟨hA,hX,hY,hS,hP⟩:=hc;have E:∀ b:BusN,b.rd ((c.PC+1) % 65536)=b.rd (c.PC+1):=fun b=>rd_of b dQ
 have j:∀ b:BusN,b.get ((c.PC+1) % 65536)=b.get (c.PC+1):=fun b=>qAA b dQ
 have H:∀ b:BusN,b.rd ((c.PC+2) % 65536)=b.rd (c.PC+2):=fun b=>rd_of b dQ
 have B:∀ b:BusN,b.get ((c.PC+2) % 65536)=b.get (c.PC+2):=fun b=>qAA b dQ
 have J:((c.PC+1) % 65536+1) % 65536=(c.PC+2) % 65536:=dQ;have s1:stk (c.S % 256)=stk c.S:=mAA dQ;have W:stk ((c.S+255) % 256)=stk (c.S+255):=mAA dQ;have s3:stk (((c.S+255) % 256+255) % 256)=stk (c.S+254):=mAA dQ;have s4:stk ((c.S+1) % 256+1)=stk (c.S+2):=mAA dQ;have s5:stk (((c.S+1) % 256+1) % 256+1)=stk (c.S+3):=mAA dQ;have U:((c.S+255) % 256+255) % 256=(c.S+254) % 256:=dQ;have T:((c.S+254) % 256+255) % 256=(c.S+253) % 256:=dQ;have t4:((c.S+1) % 256+1) % 256=(c.S+2) % 256:=dQ;have t5:((c.S+2) % 256+1) % 256=(c.S+3) % 256:=dQ;have s6:stk ((c.S+254) % 256)=stk (c.S+254):=mAA dQ;have t6:(c.PC+2) % 65536 / 256 % 256=(c.PC+2) % 65536 / 256:=dQ;have p6:pAA 65534 65535=65535:=rfl;have R:pAA 65530 65531=65531:=rfl;have t7:c.PC / 256 % 256=c.PC / 256:=dQ;have s7:stk ((c.S+2) % 256+1)=stk (c.S+3):=mAA dQ;simp[goN,holdN,pushN,St.jumpP,St.subP,St.backP,St.rtiP,St.brkP,St.pushP,St.pullP,St.fetchW,St.readW,St.fetch,St.idle,St.idleStk,St.pushPC,St.push,St.pullPC,St.pull,St.inter,CpuN.unpack,CpuN.pk,CpuN.nz,E,j,H,B,J,s1,W,s3,s4,s5,s6,s7,U,T,t4,t5,t6,t7,p6,R,iDA]
theorem oIB (c:CpuN) (hc:c.ok) (b:BusN) (hb:∀ a,b.get a < 256) (m:Int):(⟨{ c with PC:=(c.PC+1) % 65536 },b⟩:St).rtiP=⟨(goN b c [82,84,73] m).1,(goN b c [82,84,73] m).2⟩:=by
 obtain⟨hA,hX,hY,hS,hP⟩:=hc;have E:∀ b:BusN,b.rd ((c.PC+1) % 65536)=b.rd (c.PC+1):=fun b=>rd_of b dQ
 have j:∀ b:BusN,b.get ((c.PC+1) % 65536)=b.get (c.PC+1):=fun b=>qAA b dQ
 have H:∀ b:BusN,b.rd ((c.PC+2) % 65536)=b.rd (c.PC+2):=fun b=>rd_of b dQ
 have B:∀ b:BusN,b.get ((c.PC+2) % 65536)=b.get (c.PC+2):=fun b=>qAA b dQ
 have J:((c.PC+1) % 65536+1) % 65536=(c.PC+2) % 65536:=dQ;have s1:stk (c.S % 256)=stk c.S:=mAA dQ;have W:stk ((c.S+255) % 256)=stk (c.S+255):=mAA dQ;have s3:stk (((c.S+255) % 256+255) % 256)=stk (c.S+254):=mAA dQ;have s4:stk ((c.S+1) % 256+1)=stk (c.S+2):=mAA dQ;have s5:stk (((c.S+1) % 256+1) % 256+1)=stk (c.S+3):=mAA dQ;have U:((c.S+255) % 256+255) % 256=(c.S+254) % 256:=dQ;have T:((c.S+254) % 256+255) % 256=(c.S+253) % 256:=dQ;have t4:((c.S+1) % 256+1) % 256=(c.S+2) % 256:=dQ;have t5:((c.S+2) % 256+1) % 256=(c.S+3) % 256:=dQ;have s6:stk ((c.S+254) % 256)=stk (c.S+254):=mAA dQ;have t6:(c.PC+2) % 65536 / 256 % 256=(c.PC+2) % 65536 / 256:=dQ;have p6:pAA 65534 65535=65535:=rfl;have R:pAA 65530 65531=65531:=rfl;have t7:c.PC / 256 % 256=c.PC / 256:=dQ;have s7:stk ((c.S+2) % 256+1)=stk (c.S+3):=mAA dQ;simp[goN,holdN,pushN,St.jumpP,St.subP,St.backP,St.rtiP,St.brkP,St.pushP,St.pullP,St.fetchW,St.readW,St.fetch,St.idle,St.idleStk,St.pushPC,St.push,St.pullPC,St.pull,St.inter,CpuN.unpack,CpuN.pk,CpuN.nz,E,j,H,B,J,s1,W,s3,s4,s5,s6,s7,U,T,t4,t5,t6,t7,p6,R,iDA]
theorem lJB (c:CpuN) (hc:c.ok) (b:BusN) (hb:∀ a,b.get a < 256) (m:Int):(⟨{ c with PC:=(c.PC+1) % 65536 },b⟩:St).subP=⟨(goN b c [74,83,82] m).1,(goN b c [74,83,82] m).2⟩:=by
 obtain⟨hA,hX,hY,hS,hP⟩:=hc;have E:∀ b:BusN,b.rd ((c.PC+1) % 65536)=b.rd (c.PC+1):=fun b=>rd_of b dQ
 have j:∀ b:BusN,b.get ((c.PC+1) % 65536)=b.get (c.PC+1):=fun b=>qAA b dQ
 have H:∀ b:BusN,b.rd ((c.PC+2) % 65536)=b.rd (c.PC+2):=fun b=>rd_of b dQ
 have B:∀ b:BusN,b.get ((c.PC+2) % 65536)=b.get (c.PC+2):=fun b=>qAA b dQ
 have J:((c.PC+1) % 65536+1) % 65536=(c.PC+2) % 65536:=dQ;have s1:stk (c.S % 256)=stk c.S:=mAA dQ;have W:stk ((c.S+255) % 256)=stk (c.S+255):=mAA dQ;have s3:stk (((c.S+255) % 256+255) % 256)=stk (c.S+254):=mAA dQ;have s4:stk ((c.S+1) % 256+1)=stk (c.S+2):=mAA dQ;have s5:stk (((c.S+1) % 256+1) % 256+1)=stk (c.S+3):=mAA dQ;have U:((c.S+255) % 256+255) % 256=(c.S+254) % 256:=dQ;have T:((c.S+254) % 256+255) % 256=(c.S+253) % 256:=dQ;have t4:((c.S+1) % 256+1) % 256=(c.S+2) % 256:=dQ;have t5:((c.S+2) % 256+1) % 256=(c.S+3) % 256:=dQ;have s6:stk ((c.S+254) % 256)=stk (c.S+254):=mAA dQ;have t6:(c.PC+2) % 65536 / 256 % 256=(c.PC+2) % 65536 / 256:=dQ;have p6:pAA 65534 65535=65535:=rfl;have R:pAA 65530 65531=65531:=rfl;have t7:c.PC / 256 % 256=c.PC / 256:=dQ;have s7:stk ((c.S+2) % 256+1)=stk (c.S+3):=mAA dQ;simp[goN,holdN,pushN,St.jumpP,St.subP,St.backP,St.rtiP,St.brkP,St.pushP,St.pullP,St.fetchW,St.readW,St.fetch,St.idle,St.idleStk,St.pushPC,St.push,St.pullPC,St.pull,St.inter,CpuN.unpack,CpuN.pk,CpuN.nz,E,j,H,B,J,s1,W,s3,s4,s5,s6,s7,U,T,t4,t5,t6,t7,p6,R,iDA]
theorem kIB (c:CpuN) (hc:c.ok) (b:BusN) (hb:∀ a,b.get a < 256) (m:Int):(⟨{ c with PC:=(c.PC+1) % 65536 },b⟩:St).brkP=⟨(goN b c [66,82,75] m).1,(goN b c [66,82,75] m).2⟩:=by
 obtain⟨hA,hX,hY,hS,hP⟩:=hc;have E:∀ b:BusN,b.rd ((c.PC+1) % 65536)=b.rd (c.PC+1):=fun b=>rd_of b dQ
 have j:∀ b:BusN,b.get ((c.PC+1) % 65536)=b.get (c.PC+1):=fun b=>qAA b dQ
 have H:∀ b:BusN,b.rd ((c.PC+2) % 65536)=b.rd (c.PC+2):=fun b=>rd_of b dQ
 have B:∀ b:BusN,b.get ((c.PC+2) % 65536)=b.get (c.PC+2):=fun b=>qAA b dQ
 have J:((c.PC+1) % 65536+1) % 65536=(c.PC+2) % 65536:=dQ;have s1:stk (c.S % 256)=stk c.S:=mAA dQ;have W:stk ((c.S+255) % 256)=stk (c.S+255):=mAA dQ;have s3:stk (((c.S+255) % 256+255) % 256)=stk (c.S+254):=mAA dQ;have s4:stk ((c.S+1) % 256+1)=stk (c.S+2):=mAA dQ;have s5:stk (((c.S+1) % 256+1) % 256+1)=stk (c.S+3):=mAA dQ;have U:((c.S+255) % 256+255) % 256=(c.S+254) % 256:=dQ;have T:((c.S+254) % 256+255) % 256=(c.S+253) % 256:=dQ;have t4:((c.S+1) % 256+1) % 256=(c.S+2) % 256:=dQ;have t5:((c.S+2) % 256+1) % 256=(c.S+3) % 256:=dQ;have s6:stk ((c.S+254) % 256)=stk (c.S+254):=mAA dQ;have t6:(c.PC+2) % 65536 / 256 % 256=(c.PC+2) % 65536 / 256:=dQ;have p6:pAA 65534 65535=65535:=rfl;have R:pAA 65530 65531=65531:=rfl;have t7:c.PC / 256 % 256=c.PC / 256:=dQ;have s7:stk ((c.S+2) % 256+1)=stk (c.S+3):=mAA dQ;simp[goN,holdN,pushN,St.jumpP,St.subP,St.backP,St.rtiP,St.brkP,St.pushP,St.pullP,St.fetchW,St.readW,St.fetch,St.idle,St.idleStk,St.pushPC,St.push,St.pullPC,St.pull,St.inter,CpuN.unpack,CpuN.pk,CpuN.nz,E,j,H,B,J,s1,W,s3,s4,s5,s6,s7,U,T,t4,t5,t6,t7,p6,R,iDA]
theorem aHB (c:CpuN) (hc:c.ok) (b:BusN) (hb:∀ a,b.get a < 256):(⟨{ c with PC:=(c.PC+1) % 65536 },b⟩:St).jumpP 6=⟨(goN b c [74,77,80] 6).1,(goN b c [74,77,80] 6).2⟩:=by
 obtain⟨hA,hX,hY,hS,hP⟩:=hc;have E:∀ b:BusN,b.rd ((c.PC+1) % 65536)=b.rd (c.PC+1):=fun b=>rd_of b dQ
 have j:∀ b:BusN,b.get ((c.PC+1) % 65536)=b.get (c.PC+1):=fun b=>qAA b dQ
 have H:∀ b:BusN,b.rd ((c.PC+2) % 65536)=b.rd (c.PC+2):=fun b=>rd_of b dQ
 have B:∀ b:BusN,b.get ((c.PC+2) % 65536)=b.get (c.PC+2):=fun b=>qAA b dQ
 have J:((c.PC+1) % 65536+1) % 65536=(c.PC+2) % 65536:=dQ;have s1:stk (c.S % 256)=stk c.S:=mAA dQ;have W:stk ((c.S+255) % 256)=stk (c.S+255):=mAA dQ;have s3:stk (((c.S+255) % 256+255) % 256)=stk (c.S+254):=mAA dQ;have s4:stk ((c.S+1) % 256+1)=stk (c.S+2):=mAA dQ;have s5:stk (((c.S+1) % 256+1) % 256+1)=stk (c.S+3):=mAA dQ;have U:((c.S+255) % 256+255) % 256=(c.S+254) % 256:=dQ;have T:((c.S+254) % 256+255) % 256=(c.S+253) % 256:=dQ;have t4:((c.S+1) % 256+1) % 256=(c.S+2) % 256:=dQ;have t5:((c.S+2) % 256+1) % 256=(c.S+3) % 256:=dQ;have s6:stk ((c.S+254) % 256)=stk (c.S+254):=mAA dQ;have t6:(c.PC+2) % 65536 / 256 % 256=(c.PC+2) % 65536 / 256:=dQ;have p6:pAA 65534 65535=65535:=rfl;have R:pAA 65530 65531=65531:=rfl;have t7:c.PC / 256 % 256=c.PC / 256:=dQ;have s7:stk ((c.S+2) % 256+1)=stk (c.S+3):=mAA dQ;simp[goN,holdN,pushN,St.jumpP,St.subP,St.backP,St.rtiP,St.brkP,St.pushP,St.pullP,St.fetchW,St.readW,St.fetch,St.idle,St.idleStk,St.pushPC,St.push,St.pullPC,St.pull,St.inter,CpuN.unpack,CpuN.pk,CpuN.nz,E,j,H,B,J,s1,W,s3,s4,s5,s6,s7,U,T,t4,t5,t6,t7,p6,R,iDA]
theorem nGB (c:CpuN) (hc:c.ok) (b:BusN) (hb:∀ a,b.get a < 256):(⟨{ c with PC:=(c.PC+1) % 65536 },b⟩:St).jumpP 9=⟨(goN b c [74,77,80] 9).1,(goN b c [74,77,80] 9).2⟩:=by
 obtain⟨hA,hX,hY,hS,hP⟩:=hc;have E:∀ b:BusN,b.rd ((c.PC+1) % 65536)=b.rd (c.PC+1):=fun b=>rd_of b dQ
 have j:∀ b:BusN,b.get ((c.PC+1) % 65536)=b.get (c.PC+1):=fun b=>qAA b dQ
 have H:∀ b:BusN,b.rd ((c.PC+2) % 65536)=b.rd (c.PC+2):=fun b=>rd_of b dQ
 have B:∀ b:BusN,b.get ((c.PC+2) % 65536)=b.get (c.PC+2):=fun b=>qAA b dQ
 have J:((c.PC+1) % 65536+1) % 65536=(c.PC+2) % 65536:=dQ;have s1:stk (c.S % 256)=stk c.S:=mAA dQ;have W:stk ((c.S+255) % 256)=stk (c.S+255):=mAA dQ;have s3:stk (((c.S+255) % 256+255) % 256)=stk (c.S+254):=mAA dQ;have s4:stk ((c.S+1) % 256+1)=stk (c.S+2):=mAA dQ;have s5:stk (((c.S+1) % 256+1) % 256+1)=stk (c.S+3):=mAA dQ;have U:((c.S+255) % 256+255) % 256=(c.S+254) % 256:=dQ;have T:((c.S+254) % 256+255) % 256=(c.S+253) % 256:=dQ;have t4:((c.S+1) % 256+1) % 256=(c.S+2) % 256:=dQ;have t5:((c.S+2) % 256+1) % 256=(c.S+3) % 256:=dQ;have s6:stk ((c.S+254) % 256)=stk (c.S+254):=mAA dQ;have t6:(c.PC+2) % 65536 / 256 % 256=(c.PC+2) % 65536 / 256:=dQ;have p6:pAA 65534 65535=65535:=rfl;have R:pAA 65530 65531=65531:=rfl;have t7:c.PC / 256 % 256=c.PC / 256:=dQ;have s7:stk ((c.S+2) % 256+1)=stk (c.S+3):=mAA dQ;have hw:word (b.get (c.PC+1)) (b.get (c.PC+2)) < 65536:=by have:=hb (c.PC+1);have:=hb (c.PC+2);unfold word;omega
 have e6:=oDB hw;simp[goN,holdN,pushN,St.jumpP,St.subP,St.backP,St.rtiP,St.brkP,St.pushP,St.pullP,St.fetchW,St.readW,St.fetch,St.idle,St.idleStk,St.pushPC,St.push,St.pullPC,St.pull,St.inter,CpuN.unpack,CpuN.pk,CpuN.nz,E,j,H,B,J,s1,W,s3,s4,s5,s6,s7,U,T,t4,t5,t6,t7,p6,R,iDA,e6]
theorem cJB (c:CpuN) (hc:c.ok) (b:BusN) (hb:∀ a,b.get a < 256) (m:Int):(⟨{ c with PC:=(c.PC+1) % 65536 },b⟩:St).pushP [80,72,65]=⟨(goN b c [80,72,65] m).1,(goN b c [80,72,65] m).2⟩:=by
 obtain⟨hA,hX,hY,hS,hP⟩:=hc;have E:∀ b:BusN,b.rd ((c.PC+1) % 65536)=b.rd (c.PC+1):=fun b=>rd_of b dQ
 have j:∀ b:BusN,b.get ((c.PC+1) % 65536)=b.get (c.PC+1):=fun b=>qAA b dQ
 have H:∀ b:BusN,b.rd ((c.PC+2) % 65536)=b.rd (c.PC+2):=fun b=>rd_of b dQ
 have B:∀ b:BusN,b.get ((c.PC+2) % 65536)=b.get (c.PC+2):=fun b=>qAA b dQ
 have J:((c.PC+1) % 65536+1) % 65536=(c.PC+2) % 65536:=dQ;have s1:stk (c.S % 256)=stk c.S:=mAA dQ;have W:stk ((c.S+255) % 256)=stk (c.S+255):=mAA dQ;have s3:stk (((c.S+255) % 256+255) % 256)=stk (c.S+254):=mAA dQ;have s4:stk ((c.S+1) % 256+1)=stk (c.S+2):=mAA dQ;have s5:stk (((c.S+1) % 256+1) % 256+1)=stk (c.S+3):=mAA dQ;have U:((c.S+255) % 256+255) % 256=(c.S+254) % 256:=dQ;have T:((c.S+254) % 256+255) % 256=(c.S+253) % 256:=dQ;have t4:((c.S+1) % 256+1) % 256=(c.S+2) % 256:=dQ;have t5:((c.S+2) % 256+1) % 256=(c.S+3) % 256:=dQ;have s6:stk ((c.S+254) % 256)=stk (c.S+254):=mAA dQ;have t6:(c.PC+2) % 65536 / 256 % 256=(c.PC+2) % 65536 / 256:=dQ;have p6:pAA 65534 65535=65535:=rfl;have R:pAA 65530 65531=65531:=rfl;have t7:c.PC / 256 % 256=c.PC / 256:=dQ;have s7:stk ((c.S+2) % 256+1)=stk (c.S+3):=mAA dQ;simp[goN,holdN,pushN,St.jumpP,St.subP,St.backP,St.rtiP,St.brkP,St.pushP,St.pullP,St.fetchW,St.readW,St.fetch,St.idle,St.idleStk,St.pushPC,St.push,St.pullPC,St.pull,St.inter,CpuN.unpack,CpuN.pk,CpuN.nz,E,j,H,B,J,s1,W,s3,s4,s5,s6,s7,U,T,t4,t5,t6,t7,p6,R,iDA]
theorem hJB (c:CpuN) (hc:c.ok) (b:BusN) (hb:∀ a,b.get a < 256) (m:Int):(⟨{ c with PC:=(c.PC+1) % 65536 },b⟩:St).pushP [80,72,80]=⟨(goN b c [80,72,80] m).1,(goN b c [80,72,80] m).2⟩:=by
 obtain⟨hA,hX,hY,hS,hP⟩:=hc;have E:∀ b:BusN,b.rd ((c.PC+1) % 65536)=b.rd (c.PC+1):=fun b=>rd_of b dQ
 have j:∀ b:BusN,b.get ((c.PC+1) % 65536)=b.get (c.PC+1):=fun b=>qAA b dQ
 have H:∀ b:BusN,b.rd ((c.PC+2) % 65536)=b.rd (c.PC+2):=fun b=>rd_of b dQ
 have B:∀ b:BusN,b.get ((c.PC+2) % 65536)=b.get (c.PC+2):=fun b=>qAA b dQ
 have J:((c.PC+1) % 65536+1) % 65536=(c.PC+2) % 65536:=dQ;have s1:stk (c.S % 256)=stk c.S:=mAA dQ;have W:stk ((c.S+255) % 256)=stk (c.S+255):=mAA dQ;have s3:stk (((c.S+255) % 256+255) % 256)=stk (c.S+254):=mAA dQ;have s4:stk ((c.S+1) % 256+1)=stk (c.S+2):=mAA dQ;have s5:stk (((c.S+1) % 256+1) % 256+1)=stk (c.S+3):=mAA dQ;have U:((c.S+255) % 256+255) % 256=(c.S+254) % 256:=dQ;have T:((c.S+254) % 256+255) % 256=(c.S+253) % 256:=dQ;have t4:((c.S+1) % 256+1) % 256=(c.S+2) % 256:=dQ;have t5:((c.S+2) % 256+1) % 256=(c.S+3) % 256:=dQ;have s6:stk ((c.S+254) % 256)=stk (c.S+254):=mAA dQ;have t6:(c.PC+2) % 65536 / 256 % 256=(c.PC+2) % 65536 / 256:=dQ;have p6:pAA 65534 65535=65535:=rfl;have R:pAA 65530 65531=65531:=rfl;have t7:c.PC / 256 % 256=c.PC / 256:=dQ;have s7:stk ((c.S+2) % 256+1)=stk (c.S+3):=mAA dQ;simp[goN,holdN,pushN,St.jumpP,St.subP,St.backP,St.rtiP,St.brkP,St.pushP,St.pullP,St.fetchW,St.readW,St.fetch,St.idle,St.idleStk,St.pushPC,St.push,St.pullPC,St.pull,St.inter,CpuN.unpack,CpuN.pk,CpuN.nz,E,j,H,B,J,s1,W,s3,s4,s5,s6,s7,U,T,t4,t5,t6,t7,p6,R,iDA]
theorem iJB (c:CpuN) (hc:c.ok) (b:BusN) (hb:∀ a,b.get a < 256) (m:Int):(⟨{ c with PC:=(c.PC+1) % 65536 },b⟩:St).pullP [80,76,65]=⟨(goN b c [80,76,65] m).1,(goN b c [80,76,65] m).2⟩:=by
 obtain⟨hA,hX,hY,hS,hP⟩:=hc;have E:∀ b:BusN,b.rd ((c.PC+1) % 65536)=b.rd (c.PC+1):=fun b=>rd_of b dQ
 have j:∀ b:BusN,b.get ((c.PC+1) % 65536)=b.get (c.PC+1):=fun b=>qAA b dQ
 have H:∀ b:BusN,b.rd ((c.PC+2) % 65536)=b.rd (c.PC+2):=fun b=>rd_of b dQ
 have B:∀ b:BusN,b.get ((c.PC+2) % 65536)=b.get (c.PC+2):=fun b=>qAA b dQ
 have J:((c.PC+1) % 65536+1) % 65536=(c.PC+2) % 65536:=dQ;have s1:stk (c.S % 256)=stk c.S:=mAA dQ;have W:stk ((c.S+255) % 256)=stk (c.S+255):=mAA dQ;have s3:stk (((c.S+255) % 256+255) % 256)=stk (c.S+254):=mAA dQ;have s4:stk ((c.S+1) % 256+1)=stk (c.S+2):=mAA dQ;have s5:stk (((c.S+1) % 256+1) % 256+1)=stk (c.S+3):=mAA dQ;have U:((c.S+255) % 256+255) % 256=(c.S+254) % 256:=dQ;have T:((c.S+254) % 256+255) % 256=(c.S+253) % 256:=dQ;have t4:((c.S+1) % 256+1) % 256=(c.S+2) % 256:=dQ;have t5:((c.S+2) % 256+1) % 256=(c.S+3) % 256:=dQ;have s6:stk ((c.S+254) % 256)=stk (c.S+254):=mAA dQ;have t6:(c.PC+2) % 65536 / 256 % 256=(c.PC+2) % 65536 / 256:=dQ;have p6:pAA 65534 65535=65535:=rfl;have R:pAA 65530 65531=65531:=rfl;have t7:c.PC / 256 % 256=c.PC / 256:=dQ;have s7:stk ((c.S+2) % 256+1)=stk (c.S+3):=mAA dQ;simp[goN,holdN,pushN,St.jumpP,St.subP,St.backP,St.rtiP,St.brkP,St.pushP,St.pullP,St.fetchW,St.readW,St.fetch,St.idle,St.idleStk,St.pushPC,St.push,St.pullPC,St.pull,St.inter,CpuN.unpack,CpuN.pk,CpuN.nz,E,j,H,B,J,s1,W,s3,s4,s5,s6,s7,U,T,t4,t5,t6,t7,p6,R,iDA]
theorem gJB (c:CpuN) (hc:c.ok) (b:BusN) (hb:∀ a,b.get a < 256) (m:Int):(⟨{ c with PC:=(c.PC+1) % 65536 },b⟩:St).pullP [80,76,80]=⟨(goN b c [80,76,80] m).1,(goN b c [80,76,80] m).2⟩:=by
 obtain⟨hA,hX,hY,hS,hP⟩:=hc;have E:∀ b:BusN,b.rd ((c.PC+1) % 65536)=b.rd (c.PC+1):=fun b=>rd_of b dQ
 have j:∀ b:BusN,b.get ((c.PC+1) % 65536)=b.get (c.PC+1):=fun b=>qAA b dQ
 have H:∀ b:BusN,b.rd ((c.PC+2) % 65536)=b.rd (c.PC+2):=fun b=>rd_of b dQ
 have B:∀ b:BusN,b.get ((c.PC+2) % 65536)=b.get (c.PC+2):=fun b=>qAA b dQ
 have J:((c.PC+1) % 65536+1) % 65536=(c.PC+2) % 65536:=dQ;have s1:stk (c.S % 256)=stk c.S:=mAA dQ;have W:stk ((c.S+255) % 256)=stk (c.S+255):=mAA dQ;have s3:stk (((c.S+255) % 256+255) % 256)=stk (c.S+254):=mAA dQ;have s4:stk ((c.S+1) % 256+1)=stk (c.S+2):=mAA dQ;have s5:stk (((c.S+1) % 256+1) % 256+1)=stk (c.S+3):=mAA dQ;have U:((c.S+255) % 256+255) % 256=(c.S+254) % 256:=dQ;have T:((c.S+254) % 256+255) % 256=(c.S+253) % 256:=dQ;have t4:((c.S+1) % 256+1) % 256=(c.S+2) % 256:=dQ;have t5:((c.S+2) % 256+1) % 256=(c.S+3) % 256:=dQ;have s6:stk ((c.S+254) % 256)=stk (c.S+254):=mAA dQ;have t6:(c.PC+2) % 65536 / 256 % 256=(c.PC+2) % 65536 / 256:=dQ;have p6:pAA 65534 65535=65535:=rfl;have R:pAA 65530 65531=65531:=rfl;have t7:c.PC / 256 % 256=c.PC / 256:=dQ;have s7:stk ((c.S+2) % 256+1)=stk (c.S+3):=mAA dQ;simp[goN,holdN,pushN,St.jumpP,St.subP,St.backP,St.rtiP,St.brkP,St.pushP,St.pullP,St.fetchW,St.readW,St.fetch,St.idle,St.idleStk,St.pushPC,St.push,St.pullPC,St.pull,St.inter,CpuN.unpack,CpuN.pk,CpuN.nz,E,j,H,B,J,s1,W,s3,s4,s5,s6,s7,U,T,t4,t5,t6,t7,p6,R,iDA]
theorem wDB (c:CpuN) (hc:c.ok) (b:BusN) (nmi:Bool):(⟨c,b⟩:St).idle.idle.inter (if nmi then 65530 else 65534) false=⟨(uFA b c nmi).1,(uFA b c nmi).2⟩:=by
 obtain⟨hA,hX,hY,hS,hP⟩:=hc;have E:∀ b:BusN,b.rd ((c.PC+1) % 65536)=b.rd (c.PC+1):=fun b=>rd_of b dQ
 have j:∀ b:BusN,b.get ((c.PC+1) % 65536)=b.get (c.PC+1):=fun b=>qAA b dQ
 have H:∀ b:BusN,b.rd ((c.PC+2) % 65536)=b.rd (c.PC+2):=fun b=>rd_of b dQ
 have B:∀ b:BusN,b.get ((c.PC+2) % 65536)=b.get (c.PC+2):=fun b=>qAA b dQ
 have J:((c.PC+1) % 65536+1) % 65536=(c.PC+2) % 65536:=dQ;have s1:stk (c.S % 256)=stk c.S:=mAA dQ;have W:stk ((c.S+255) % 256)=stk (c.S+255):=mAA dQ;have s3:stk (((c.S+255) % 256+255) % 256)=stk (c.S+254):=mAA dQ;have s4:stk ((c.S+1) % 256+1)=stk (c.S+2):=mAA dQ;have s5:stk (((c.S+1) % 256+1) % 256+1)=stk (c.S+3):=mAA dQ;have U:((c.S+255) % 256+255) % 256=(c.S+254) % 256:=dQ;have T:((c.S+254) % 256+255) % 256=(c.S+253) % 256:=dQ;have t4:((c.S+1) % 256+1) % 256=(c.S+2) % 256:=dQ;have t5:((c.S+2) % 256+1) % 256=(c.S+3) % 256:=dQ;have s6:stk ((c.S+254) % 256)=stk (c.S+254):=mAA dQ;have t6:(c.PC+2) % 65536 / 256 % 256=(c.PC+2) % 65536 / 256:=dQ;have p6:pAA 65534 65535=65535:=rfl;have R:pAA 65530 65531=65531:=rfl;have t7:c.PC / 256 % 256=c.PC / 256:=dQ;have s7:stk ((c.S+2) % 256+1)=stk (c.S+3):=mAA dQ;cases nmi<;>simp[uFA,pushN,St.idle,St.pushPC,St.push,St.inter,St.readW,CpuN.pk,E,j,H,B,J,s1,W,s3,s4,s5,s6,s7,U,T,t4,t5,t6,t7,p6,R,iDA]
theorem hBB (c:CpuN) (hc:c.ok) (b:BusN) (l:List UInt8):(⟨{ c with PC:=(c.PC+1) % 65536 },b⟩:St).branchP l=⟨(gBA b c l).1,(gBA b c l).2⟩:=by
 obtain⟨hA,hX,hY,hS,hP⟩:=hc;have E:∀ b:BusN,b.rd ((c.PC+1) % 65536)=b.rd (c.PC+1):=fun b=>rd_of b dQ
 have j:∀ b:BusN,b.get ((c.PC+1) % 65536)=b.get (c.PC+1):=fun b=>qAA b dQ
 have H:∀ b:BusN,b.rd ((c.PC+2) % 65536)=b.rd (c.PC+2):=fun b=>rd_of b dQ
 have B:∀ b:BusN,b.get ((c.PC+2) % 65536)=b.get (c.PC+2):=fun b=>qAA b dQ
 have J:((c.PC+1) % 65536+1) % 65536=(c.PC+2) % 65536:=dQ;have hh:∀ q,aBA { c with PC:=q } l=aBA c l:=fun q=>eCB c l q
 unfold St.branchP gBA;simp only[St.fetch,St.idle,J,hh,E,j,H];cases aBA c l with
 | false=>rfl
 | true=>
  simp only[if_true];unfold pAA;split<;>rfl
theorem xMA (c:CpuN) (b:BusN) (hb:∀ a,b.get a < 256) (n:Nat) (hm:hAA n=2\/hAA n=3\/hAA n=4\/hAA n=5\/hAA n=6\/hAA n=7\/hAA n=8\/hAA n=10\/hAA n=11) (hz:rAA n=jDA (hAA n))
  (hk:eAA n=2\/(eAA n=3/\hAA n≠2)\/(eAA n=4/\hAA n≠2)):(⟨{ c with PC:=(c.PC+1) % 65536 },b⟩:St).kindP n=⟨(dataN b c n).1,(dataN b c n).2⟩:=by
 have E:∀ b:BusN,b.rd ((c.PC+1) % 65536)=b.rd (c.PC+1):=fun b=>rd_of b dQ
 have j:∀ b:BusN,b.get ((c.PC+1) % 65536)=b.get (c.PC+1):=fun b=>qAA b dQ
 have H:∀ b:BusN,b.rd ((c.PC+2) % 65536)=b.rd (c.PC+2):=fun b=>rd_of b dQ
 have B:∀ b:BusN,b.get ((c.PC+2) % 65536)=b.get (c.PC+2):=fun b=>qAA b dQ
 have J:((c.PC+1) % 65536+1) % 65536=(c.PC+2) % 65536:=dQ;unfold St.kindP dataN;rw[hz];by_cases h2:hAA n=2
 ·have k2:eAA n=2:=by
   rcases hk with h|h|h
   ·exact h
   ·exact absurd h2 h.2
   ·exact absurd h2 h.2
  simp only[k2,h2,St.readP,St.place,if_true,reduceIte,Int.reduceEq,gOA,j,E,if_false,J,show (jDA 2).toNat=2 from rfl]
 ·have hp:=wCB c b hb (hAA n) (eAA n) dQ;rcases hk with k|⟨k,_⟩|⟨k,_⟩
  ·simp only[k,h2,St.readP,if_true,if_false,reduceIte,Int.reduceEq] at hp ⊢;rw[hp,gOA]
  ·simp only[k,h2,St.writeP,if_true,if_false,reduceIte,Int.reduceEq] at hp ⊢;rw[hp]
  ·simp only[k,h2,St.modP,if_true,if_false,reduceIte,Int.reduceEq] at hp ⊢;rw[hp]
theorem zIB {b:Nat} (hb:b < 256):(eAA b=7->opId b=28)/\(eAA b=8->opId b=30)/\(eAA b=9->opId b=29)/\(eAA b=10->opId b=27)/\(eAA b=6->opId b=32):=
 uBA (p:=fun b=>(eAA b=7->opId b=28)/\(eAA b=8->opId b=30)/\(eAA b=9->opId b=29)/\(eAA b=10->opId b=27)/\(eAA b=6->opId b=32)) qQa hb
theorem op_sz {b:Nat} (hb:b < 256):eAA b≠0->rAA b=jDA (hAA b):=
 uBA (p:=fun b=>eAA b≠0->rAA b=jDA (hAA b)) qQa hb
theorem gGA {b:BusN} {c:CpuN} {n:Nat} {l:List UInt8} (h1:eAA n≠1) (h2:eAA n≠2) (h3:eAA n≠3) (h4:eAA n≠4) (h5:eAA n≠5) (hl:(lAA n).toList=l):opB b c n=goN b c l (hAA n):=by
 unfold opB;rw[if_neg h1,if_neg h5,if_neg dQ,hl]
theorem gFB (c:CpuN) (hc:c.ok) (b:BusN) (hb:∀ a,b.get a < 256) (n:Nat) (hn:n < 256) (h0:eAA n≠0):(⟨{ c with PC:=(c.PC+1) % 65536 },b⟩:St).kindP n=⟨(opB b c n).1,(opB b c n).2⟩:=by
 obtain⟨o7,o8,o9,a5,o6⟩:=zIB hn;rcases hWA hn with h|h|h|h|h|h|h|h|h|h|h|h|h
 ·exact absurd h h0
 ·unfold St.kindP opB;simp only[h,if_true];rw[impLq];exact St.ext' rfl (rd_of _ dQ)
 ·obtain⟨_,hm⟩:=op_k2 hn h;have e:opB b c n=dataN b c n:=zQd;rw[e];exact xMA c b hb n (dHA hm) (op_sz hn h0) (.inl h)
 ·obtain⟨_,hm⟩:=op_k3 hn h;have hne:hAA n≠2:=by have:=pGA hm;omega
  have e:opB b c n=dataN b c n:=zQd;rw[e];exact xMA c b hb n (dHA (.inr hm)) (op_sz hn h0) (.inr (.inl ⟨h,hne⟩))
 ·obtain⟨_,hm⟩:=op_k4 hn h;have hne:hAA n≠2:=by have:=pGA hm;omega
  have e:opB b c n=dataN b c n:=zQd;rw[e];exact xMA c b hb n (dHA (.inr hm)) (op_sz hn h0) (.inr (.inr ⟨h,hne⟩))
 ·have e:opB b c n=gBA b c (lAA n).toList:=by unfold opB;rw[if_neg dQ,if_pos h]
  rw[e,<-hBB c hc b];unfold St.kindP;simp only[h,Int.reduceEq,if_true,if_false,reduceIte]
 ·have e:(lAA n).toList=[74,77,80]:=by unfold lAA;rw[o6 h];rw[ByteArray.toList_eq];rfl
  rw[gGA dQ dQ dQ dQ dQ e];unfold St.kindP;simp only[h,Int.reduceEq,if_true,if_false,reduceIte];rcases kAB hn h with hm|hm<;>rw[hm]
  ·exact aHB c hc b hb
  ·exact nGB c hc b hb
 ·have e:(lAA n).toList=[74,83,82]:=by unfold lAA;rw[o7 h];rw[ByteArray.toList_eq];rfl
  rw[gGA dQ dQ dQ dQ dQ e];unfold St.kindP;simp only[h,Int.reduceEq,if_true,if_false,reduceIte];exact lJB c hc b hb _
 ·have e:(lAA n).toList=[82,84,83]:=by unfold lAA;rw[o8 h];rw[ByteArray.toList_eq];rfl
  rw[gGA dQ dQ dQ dQ dQ e];unfold St.kindP;simp only[h,Int.reduceEq,if_true,if_false,reduceIte];exact wIB c hc b hb _
 ·have e:(lAA n).toList=[82,84,73]:=by unfold lAA;rw[o9 h];rw[ByteArray.toList_eq];rfl
  rw[gGA dQ dQ dQ dQ dQ e];unfold St.kindP;simp only[h,Int.reduceEq,if_true,if_false,reduceIte];exact oIB c hc b hb _
 ·have e:(lAA n).toList=[66,82,75]:=by unfold lAA;rw[a5 h];rw[ByteArray.toList_eq];rfl
  rw[gGA dQ dQ dQ dQ dQ e];unfold St.kindP;simp only[h,Int.reduceEq,if_true,if_false,reduceIte];exact kIB c hc b hb _
 ·rcases zAB hn h with hi|hi
  ·have e:(lAA n).toList=[80,72,65]:=lQf;rw[gGA dQ dQ dQ dQ dQ e];unfold St.kindP;simp only[h,Int.reduceEq,if_true,if_false,reduceIte,e];exact cJB c hc b hb _
  ·have e:(lAA n).toList=[80,72,80]:=lQf;rw[gGA dQ dQ dQ dQ dQ e];unfold St.kindP;simp only[h,Int.reduceEq,if_true,if_false,reduceIte,e];exact hJB c hc b hb _
 ·rcases yZA hn h with hi|hi
  ·have e:(lAA n).toList=[80,76,65]:=lQf;rw[gGA dQ dQ dQ dQ dQ e];unfold St.kindP;simp only[h,Int.reduceEq,if_true,if_false,reduceIte,e];exact iJB c hc b hb _
  ·have e:(lAA n).toList=[80,76,80]:=lQf;rw[gGA dQ dQ dQ dQ dQ e];unfold St.kindP;simp only[h,Int.reduceEq,if_true,if_false,reduceIte,e];exact gJB c hc b hb _
theorem gDB (c:CpuN) (hc:c.ok) (b:BusN) (hb:∀ a,b.get a < 256) (n:Nat) (hn:b.get c.PC=n) (h0:eAA n≠0):(⟨c,b⟩:St).stepP n=⟨(opN b c).1,(opN b c).2⟩:=by
 unfold St.stepP;rw[if_neg h0,oJB,hn];exact gFB c hc (b.rd c.PC) hb n (by rw[<-hn];exact hb _) h0
theorem tQA:cDA:=by
 intro c a cap L w hc _ K hr;cases h:ramN L.length with
 | false=>
  have e:stepN c L=(cpu0,⟨[],[]⟩):=by unfold stepN;rw[h];rfl
  rw[e];exact tVA c hc a cap L h w hr K
 | true=>
  have hp:(⟨L,[]⟩:BusN).get c.PC=peekL L c.PC:=oHA h hc.2.2.2.2;have hb:∀ x,(⟨L,[]⟩:BusN).get x < 256:=fun x=>hr.byte' _
  by_cases k0:eAA (peekL L c.PC)=0
  ·have e:stepN c L=(c,⟨L,[]⟩):=by
    unfold stepN;rw[h,if_pos rfl,if_pos];unfold jamsN;rw[h,Bool.true_and];exact decide_eq_true ((op_k0 (lDA hr c.PC)).1 k0)
   rw[e];exact kKA c hc a cap L h w hr K (t:=⟨c,⟨L,[]⟩⟩) (by unfold St.stepP;rw[if_pos k0])
  ·have e:stepN c L=opN ⟨L,[]⟩ c:=by
    unfold stepN;rw[h,if_pos rfl,if_neg];unfold jamsN;rw[h,Bool.true_and];simp only[decide_eq_true_eq];exact fun hh=>k0 ((op_k0 (lDA hr c.PC)).2 hh)
   rw[e];exact kKA c hc a cap L h w hr K (gDB c hc ⟨L,[]⟩ hb _ hp k0)
theorem qNA:rCA:=by
 intro c a cap L nmi w hc _ K hr;cases h:ramN L.length with
 | false=>
  have e:lBA c L nmi=(cpu0,⟨[],[]⟩):=by unfold lBA;rw[h];rfl
  rw[e];cases nmi
  ·exact dKA c hc a cap L h w hr K
  ·exact yKA c hc a cap L h w hr K
 | true=>
  have e:lBA c L nmi=uFA ⟨L,[]⟩ c nmi:=by unfold lBA;rw[h];rfl
  have es:=wDB c hc ⟨L,[]⟩ nmi;rw[e];cases nmi
  ·exact qJA c hc a cap L h w hr K es
  ·exact yJA c hc a cap L h w hr K es
theorem jamOp (b:Nat) (hb:b < 256) (w:World) :
  Calls Tryz.prog 47 #[.int .u8 b] w fun e w'=>e=.returned (.agg #[.string (lAA b),.int .i64 (hAA b),.int .i64 (rAA b),.int .i64 (eAA b)])/\Below w.heap.size w w':=oMA b hb w
theorem oLA:jCA:=by
 intro a cap pc L w a4 _ _ hr;have HO:=fun w=>cEA a L.length cap w
 cases h:ramN L.length with
 | false=>
  have e:jamsN L pc=false:=by unfold jamsN;rw[h];rfl
  rw[e];rw[h] at HO;clear h e;go_enter Tryz.func17,Tryz.ntmps17;go_wp2_with fail;refine (HO _).mono ?_;rintro e w1 ⟨rfl,d1⟩;have b1:=bstep ((Below.refl _ w).alloc (Nat.le_refl _) _) d1;go_wp2;go_ret;exact⟨rfl,b1⟩
 | true=>
  obtain⟨x,hx⟩:∃ x,peekL L pc=x:=⟨_,rfl⟩;have a2:x < 256:=by rw[<-hx];exact lDA hr pc
  have e:jamsN L pc=(eAA x==0):=by
   unfold jamsN;rw[h,hx,Bool.true_and];have:=op_k0 a2;rw[Bool.eq_iff_iff];simp[this]
  rw[e];rw[h] at HO;obtain⟨kd,hk⟩:∃ r_,eAA x=r_:=⟨_,rfl⟩;have a3:=fun w=>jamOp x a2 w
  rw[hk] at a3 ⊢;have hf:∀ (p q r s:Value) (w:World),(Instr.field 95 (.agg #[p,q,r,s]) 3).run Tryz.prog w=.ok s w:=fun _ _ _ _ _=>gQ
  have HX:=hQ hx;have HR:=hQ hr;clear h e hx hr hk;go_enter Tryz.func17,Tryz.ntmps17;go_wp2_with fail;refine (HO _).mono ?_;rintro e w1 ⟨rfl,d1⟩;have q1:=(tIA d1).1;have b1:=(tIA d1).2;have c1:w1.cell? ⟨w.heap.size,0,none⟩=some (.slice a L.length cap):=q1.cell 0 _ rfl;clear d1;go_wp2_with fail;refine (wDA a cap pc L a4 _ (RowB.below HR.out b1)).mono ?_;rintro e w2 ⟨rfl,d2⟩;have b2:=bstep b1 d2;clear b1 d2 c1 q1;rw[HX.out];go_wp2_with fail;refine (a3 _).mono ?_;rintro e w3 ⟨rfl,d3⟩;have b3:=bstep b2 d3;clear b2 d3;go_wp2;go_ret;exact⟨rfl,b3⟩

end Go.Proofs.YtckfdbjjjgfbfaaGreat
