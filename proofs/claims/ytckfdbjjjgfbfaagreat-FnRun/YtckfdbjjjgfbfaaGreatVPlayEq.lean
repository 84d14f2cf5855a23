import Derived.Test.YtckfdbjjjgfbfaaGreatVPlayS
set_option linter.unusedVariables false
set_option linter.unusedSimpArgs false
namespace Go.Proofs.YtckfdbjjjgfbfaaGreat
open Go.RowKit
theorem rd_of (b:BusN) {a a':Nat} (h:a % 65536=a' % 65536):b.rd a=b.rd a':=by unfold BusN.rd BusN.get BusN.spot;rw[h]
theorem tAA (b:BusN) {a a':Nat} (h:a % 65536=a' % 65536):b.get a=b.get a':=by unfold BusN.get BusN.spot;rw[h]
theorem cDA (b:BusN) (a x:Nat):(b.rd a).get x=b.get x:=rfl
theorem mAA {s s':Nat} (h:s % 256=s' % 256):stk s=stk s':=by unfold stk;rw[h]
theorem St.ext' {c c':CpuN} {b b':BusN} (h1:c=c') (h2:b=b'):(⟨c,b⟩:St)=⟨c',b'⟩:=by rw[h1,h2]
def CpuN.atPC (c:CpuN) (q:Nat):CpuN:={ c with PC:=q }
theorem bLA {p:Prop} [Decidable p] {a b a' b':CpuN} {q:Nat} (h1:a=a'.atPC q) (h2:b=b'.atPC q):(if p then a else b)=(if p then a' else b').atPC q:=by split<;>assumption
theorem oMA (c:CpuN) (l:List UInt8) (m:Nat) (q:Nat):useL { c with PC:=q } l m={ useL c l m with PC:=q }:=by
 show _=CpuN.atPC (useL c l m) q;unfold useL;repeat(first|(refine bLA rfl ?_)|rfl)
theorem jYA (c:CpuN) (l:List UInt8) (q:Nat):regL { c with PC:=q } l={ regL c l with PC:=q }:=by
 show _=CpuN.atPC (regL c l) q;unfold regL;repeat(first|(refine bLA rfl ?_)|rfl)
theorem iUA (c:CpuN) (l:List UInt8) (q:Nat):flagL { c with PC:=q } l={ flagL c l with PC:=q }:=by
 show _=CpuN.atPC (flagL c l) q;unfold flagL;repeat(first|(refine bLA rfl ?_)|rfl)
theorem impLq (c:CpuN) (l:List UInt8) (m:Int) (q:Nat):impL { c with PC:=q } l m={ impL c l m with PC:=q }:=by
 show _=CpuN.atPC (impL c l m) q;unfold impL;refine bLA rfl ?_;rw[jYA,iUA];rfl
theorem kXA (c:CpuN) (l:List UInt8) (q:Nat):aBA { c with PC:=q } l=aBA c l:=by unfold aBA;rfl
def opB (b:BusN) (c:CpuN) (n:Nat):CpuN×BusN:=
 let l:=(lAA n).toList
 if eAA n=1 then ({ impL c l (iAA n) with PC:=(c.PC+1) % 65536 },b.rd (c.PC+1))
 else if eAA n=5 then fBA b c l
 else if eAA n=2\/eAA n=3\/eAA n=4 then dataN b c n
 else goN b c l (iAA n)
theorem cGB (b:BusN) (c:CpuN):opN b c=opB (b.rd c.PC) c (b.get c.PC):=rfl
theorem yAB {a:Nat} (ha:a < 65536):rAA a ((a+1) % 65536)=a / 256*256+(a+1) % 256:=by unfold rAA;omega
theorem zAB {z:Nat} (hz:z < 256):rAA z ((z+1) % 65536)=(z+1) % 256:=by unfold rAA;omega
theorem aVA (c:CpuN) (b:BusN) (hb:∀ a,b.get a < 256) (k:Int):(⟨{ c with PC:=(c.PC+1) % 65536 },b⟩:St).place 3 k=((kAA b c 3 k).1,⟨{ c with PC:=(c.PC+2) % 65536 },(kAA b c 3 k).2⟩):=by
 have B:∀ b:BusN,b.rd ((c.PC+1) % 65536)=b.rd (c.PC+1):=fun b=>rd_of b dQ
 have j:∀ b:BusN,b.get ((c.PC+1) % 65536)=b.get (c.PC+1):=fun b=>tAA b dQ
 have a0:∀ b:BusN,b.rd (((c.PC+1) % 65536+1) % 65536)=b.rd (c.PC+2):=fun b=>rd_of b dQ
 have J:∀ b:BusN,b.get (((c.PC+1) % 65536+1) % 65536)=b.get (c.PC+2):=fun b=>tAA b dQ
 have a1:∀ b:BusN,b.rd ((c.PC+1) % 65536+1)=b.rd (c.PC+2):=fun b=>rd_of b dQ
 have K:∀ b:BusN,b.get ((c.PC+1) % 65536+1)=b.get (c.PC+2):=fun b=>tAA b dQ
 have E:∀ b:BusN,b.rd ((c.PC+2) % 65536)=b.rd (c.PC+2):=fun b=>rd_of b dQ
 have r:∀ b:BusN,b.get ((c.PC+2) % 65536)=b.get (c.PC+2):=fun b=>tAA b dQ
 have H:((c.PC+1) % 65536+1) % 65536=(c.PC+2) % 65536:=dQ;have e4:(c.PC+2+1) % 65536=(c.PC+3) % 65536:=dQ;have e5:((c.PC+2) % 65536+1) % 65536=(c.PC+3) % 65536:=dQ;simp[St.place,kAA,St.fetch,B,j,H]
theorem bVA (c:CpuN) (b:BusN) (hb:∀ a,b.get a < 256) (k:Int):(⟨{ c with PC:=(c.PC+1) % 65536 },b⟩:St).place 4 k=((kAA b c 4 k).1,⟨{ c with PC:=(c.PC+2) % 65536 },(kAA b c 4 k).2⟩):=by
 have B:∀ b:BusN,b.rd ((c.PC+1) % 65536)=b.rd (c.PC+1):=fun b=>rd_of b dQ
 have j:∀ b:BusN,b.get ((c.PC+1) % 65536)=b.get (c.PC+1):=fun b=>tAA b dQ
 have a0:∀ b:BusN,b.rd (((c.PC+1) % 65536+1) % 65536)=b.rd (c.PC+2):=fun b=>rd_of b dQ
 have J:∀ b:BusN,b.get (((c.PC+1) % 65536+1) % 65536)=b.get (c.PC+2):=fun b=>tAA b dQ
 have a1:∀ b:BusN,b.rd ((c.PC+1) % 65536+1)=b.rd (c.PC+2):=fun b=>rd_of b dQ
 have K:∀ b:BusN,b.get ((c.PC+1) % 65536+1)=b.get (c.PC+2):=fun b=>tAA b dQ
 have E:∀ b:BusN,b.rd ((c.PC+2) % 65536)=b.rd (c.PC+2):=fun b=>rd_of b dQ
 have r:∀ b:BusN,b.get ((c.PC+2) % 65536)=b.get (c.PC+2):=fun b=>tAA b dQ
 have H:((c.PC+1) % 65536+1) % 65536=(c.PC+2) % 65536:=dQ;have e4:(c.PC+2+1) % 65536=(c.PC+3) % 65536:=dQ;have e5:((c.PC+2) % 65536+1) % 65536=(c.PC+3) % 65536:=dQ;simp[St.place,kAA,St.zero,St.fetch,B,j,H,idxN,cDA]
theorem cVA (c:CpuN) (b:BusN) (hb:∀ a,b.get a < 256) (k:Int):(⟨{ c with PC:=(c.PC+1) % 65536 },b⟩:St).place 5 k=((kAA b c 5 k).1,⟨{ c with PC:=(c.PC+2) % 65536 },(kAA b c 5 k).2⟩):=by
 have B:∀ b:BusN,b.rd ((c.PC+1) % 65536)=b.rd (c.PC+1):=fun b=>rd_of b dQ
 have j:∀ b:BusN,b.get ((c.PC+1) % 65536)=b.get (c.PC+1):=fun b=>tAA b dQ
 have a0:∀ b:BusN,b.rd (((c.PC+1) % 65536+1) % 65536)=b.rd (c.PC+2):=fun b=>rd_of b dQ
 have J:∀ b:BusN,b.get (((c.PC+1) % 65536+1) % 65536)=b.get (c.PC+2):=fun b=>tAA b dQ
 have a1:∀ b:BusN,b.rd ((c.PC+1) % 65536+1)=b.rd (c.PC+2):=fun b=>rd_of b dQ
 have K:∀ b:BusN,b.get ((c.PC+1) % 65536+1)=b.get (c.PC+2):=fun b=>tAA b dQ
 have E:∀ b:BusN,b.rd ((c.PC+2) % 65536)=b.rd (c.PC+2):=fun b=>rd_of b dQ
 have r:∀ b:BusN,b.get ((c.PC+2) % 65536)=b.get (c.PC+2):=fun b=>tAA b dQ
 have H:((c.PC+1) % 65536+1) % 65536=(c.PC+2) % 65536:=dQ;have e4:(c.PC+2+1) % 65536=(c.PC+3) % 65536:=dQ;have e5:((c.PC+2) % 65536+1) % 65536=(c.PC+3) % 65536:=dQ;simp[St.place,kAA,St.zero,St.fetch,B,j,H,idxN,cDA]
theorem dVA (c:CpuN) (b:BusN) (hb:∀ a,b.get a < 256) (k:Int):(⟨{ c with PC:=(c.PC+1) % 65536 },b⟩:St).place 6 k=((kAA b c 6 k).1,⟨{ c with PC:=(c.PC+3) % 65536 },(kAA b c 6 k).2⟩):=by
 have B:∀ b:BusN,b.rd ((c.PC+1) % 65536)=b.rd (c.PC+1):=fun b=>rd_of b dQ
 have j:∀ b:BusN,b.get ((c.PC+1) % 65536)=b.get (c.PC+1):=fun b=>tAA b dQ
 have a0:∀ b:BusN,b.rd (((c.PC+1) % 65536+1) % 65536)=b.rd (c.PC+2):=fun b=>rd_of b dQ
 have J:∀ b:BusN,b.get (((c.PC+1) % 65536+1) % 65536)=b.get (c.PC+2):=fun b=>tAA b dQ
 have a1:∀ b:BusN,b.rd ((c.PC+1) % 65536+1)=b.rd (c.PC+2):=fun b=>rd_of b dQ
 have K:∀ b:BusN,b.get ((c.PC+1) % 65536+1)=b.get (c.PC+2):=fun b=>tAA b dQ
 have E:∀ b:BusN,b.rd ((c.PC+2) % 65536)=b.rd (c.PC+2):=fun b=>rd_of b dQ
 have r:∀ b:BusN,b.get ((c.PC+2) % 65536)=b.get (c.PC+2):=fun b=>tAA b dQ
 have H:((c.PC+1) % 65536+1) % 65536=(c.PC+2) % 65536:=dQ;have e4:(c.PC+2+1) % 65536=(c.PC+3) % 65536:=dQ;have e5:((c.PC+2) % 65536+1) % 65536=(c.PC+3) % 65536:=dQ;have hw:word (b.get (c.PC+1)) (b.get (c.PC+2)) < 65536:=by have:=hb (c.PC+1);have:=hb (c.PC+2);unfold word;omega
 simp[St.place,kAA,baseN,St.fetchW,St.fetch,B,j,E,r,H,e4,e5,idxN,cDA,Nat.mod_eq_of_lt hw]
theorem eVA (c:CpuN) (b:BusN) (hb:∀ a,b.get a < 256) (k:Int):(⟨{ c with PC:=(c.PC+1) % 65536 },b⟩:St).place 7 k=((kAA b c 7 k).1,⟨{ c with PC:=(c.PC+3) % 65536 },(kAA b c 7 k).2⟩):=by
 have B:∀ b:BusN,b.rd ((c.PC+1) % 65536)=b.rd (c.PC+1):=fun b=>rd_of b dQ
 have j:∀ b:BusN,b.get ((c.PC+1) % 65536)=b.get (c.PC+1):=fun b=>tAA b dQ
 have a0:∀ b:BusN,b.rd (((c.PC+1) % 65536+1) % 65536)=b.rd (c.PC+2):=fun b=>rd_of b dQ
 have J:∀ b:BusN,b.get (((c.PC+1) % 65536+1) % 65536)=b.get (c.PC+2):=fun b=>tAA b dQ
 have a1:∀ b:BusN,b.rd ((c.PC+1) % 65536+1)=b.rd (c.PC+2):=fun b=>rd_of b dQ
 have K:∀ b:BusN,b.get ((c.PC+1) % 65536+1)=b.get (c.PC+2):=fun b=>tAA b dQ
 have E:∀ b:BusN,b.rd ((c.PC+2) % 65536)=b.rd (c.PC+2):=fun b=>rd_of b dQ
 have r:∀ b:BusN,b.get ((c.PC+2) % 65536)=b.get (c.PC+2):=fun b=>tAA b dQ
 have H:((c.PC+1) % 65536+1) % 65536=(c.PC+2) % 65536:=dQ;have e4:(c.PC+2+1) % 65536=(c.PC+3) % 65536:=dQ;have e5:((c.PC+2) % 65536+1) % 65536=(c.PC+3) % 65536:=dQ;simp[St.place,kAA,baseN,St.fetchW,St.fetch,St.indexed,rAA,B,j,E,r,H,e4,e5,idxN,cDA];generalize word (b.get (c.PC+1)) (b.get (c.PC+2))=u;by_cases hk:k=2<;>by_cases hw:u / 256*256+(u+c.X) % 256=(u+c.X) % 65536<;>simp[hk,hw]
theorem fVA (c:CpuN) (b:BusN) (hb:∀ a,b.get a < 256) (k:Int):(⟨{ c with PC:=(c.PC+1) % 65536 },b⟩:St).place 8 k=((kAA b c 8 k).1,⟨{ c with PC:=(c.PC+3) % 65536 },(kAA b c 8 k).2⟩):=by
 have B:∀ b:BusN,b.rd ((c.PC+1) % 65536)=b.rd (c.PC+1):=fun b=>rd_of b dQ
 have j:∀ b:BusN,b.get ((c.PC+1) % 65536)=b.get (c.PC+1):=fun b=>tAA b dQ
 have a0:∀ b:BusN,b.rd (((c.PC+1) % 65536+1) % 65536)=b.rd (c.PC+2):=fun b=>rd_of b dQ
 have J:∀ b:BusN,b.get (((c.PC+1) % 65536+1) % 65536)=b.get (c.PC+2):=fun b=>tAA b dQ
 have a1:∀ b:BusN,b.rd ((c.PC+1) % 65536+1)=b.rd (c.PC+2):=fun b=>rd_of b dQ
 have K:∀ b:BusN,b.get ((c.PC+1) % 65536+1)=b.get (c.PC+2):=fun b=>tAA b dQ
 have E:∀ b:BusN,b.rd ((c.PC+2) % 65536)=b.rd (c.PC+2):=fun b=>rd_of b dQ
 have r:∀ b:BusN,b.get ((c.PC+2) % 65536)=b.get (c.PC+2):=fun b=>tAA b dQ
 have H:((c.PC+1) % 65536+1) % 65536=(c.PC+2) % 65536:=dQ;have e4:(c.PC+2+1) % 65536=(c.PC+3) % 65536:=dQ;have e5:((c.PC+2) % 65536+1) % 65536=(c.PC+3) % 65536:=dQ;simp[St.place,kAA,baseN,St.fetchW,St.fetch,St.indexed,rAA,B,j,E,r,H,e4,e5,idxN,cDA];generalize word (b.get (c.PC+1)) (b.get (c.PC+2))=u;by_cases hk:k=2<;>by_cases hw:u / 256*256+(u+c.Y) % 256=(u+c.Y) % 65536<;>simp[hk,hw]
theorem sRA (c:CpuN) (b:BusN) (hb:∀ a,b.get a < 256) (k:Int):(⟨{ c with PC:=(c.PC+1) % 65536 },b⟩:St).place 10 k=((kAA b c 10 k).1,⟨{ c with PC:=(c.PC+2) % 65536 },(kAA b c 10 k).2⟩):=by
 have B:∀ b:BusN,b.rd ((c.PC+1) % 65536)=b.rd (c.PC+1):=fun b=>rd_of b dQ
 have j:∀ b:BusN,b.get ((c.PC+1) % 65536)=b.get (c.PC+1):=fun b=>tAA b dQ
 have a0:∀ b:BusN,b.rd (((c.PC+1) % 65536+1) % 65536)=b.rd (c.PC+2):=fun b=>rd_of b dQ
 have J:∀ b:BusN,b.get (((c.PC+1) % 65536+1) % 65536)=b.get (c.PC+2):=fun b=>tAA b dQ
 have a1:∀ b:BusN,b.rd ((c.PC+1) % 65536+1)=b.rd (c.PC+2):=fun b=>rd_of b dQ
 have K:∀ b:BusN,b.get ((c.PC+1) % 65536+1)=b.get (c.PC+2):=fun b=>tAA b dQ
 have E:∀ b:BusN,b.rd ((c.PC+2) % 65536)=b.rd (c.PC+2):=fun b=>rd_of b dQ
 have r:∀ b:BusN,b.get ((c.PC+2) % 65536)=b.get (c.PC+2):=fun b=>tAA b dQ
 have H:((c.PC+1) % 65536+1) % 65536=(c.PC+2) % 65536:=dQ;have e4:(c.PC+2+1) % 65536=(c.PC+3) % 65536:=dQ;have e5:((c.PC+2) % 65536+1) % 65536=(c.PC+3) % 65536:=dQ;have hz:=hb (c.PC+1);have e6:rAA ((b.get (c.PC+1)+c.X) % 256) (((b.get (c.PC+1)+c.X) % 256+1) % 65536)=(b.get (c.PC+1)+c.X+1) % 256:=by unfold rAA;omega
 simp[St.place,kAA,St.zero,St.readW,St.fetch,B,j,H,idxN,cDA,e6]
theorem tRA (c:CpuN) (b:BusN) (hb:∀ a,b.get a < 256) (k:Int):(⟨{ c with PC:=(c.PC+1) % 65536 },b⟩:St).place 11 k=((kAA b c 11 k).1,⟨{ c with PC:=(c.PC+2) % 65536 },(kAA b c 11 k).2⟩):=by
 have B:∀ b:BusN,b.rd ((c.PC+1) % 65536)=b.rd (c.PC+1):=fun b=>rd_of b dQ
 have j:∀ b:BusN,b.get ((c.PC+1) % 65536)=b.get (c.PC+1):=fun b=>tAA b dQ
 have a0:∀ b:BusN,b.rd (((c.PC+1) % 65536+1) % 65536)=b.rd (c.PC+2):=fun b=>rd_of b dQ
 have J:∀ b:BusN,b.get (((c.PC+1) % 65536+1) % 65536)=b.get (c.PC+2):=fun b=>tAA b dQ
 have a1:∀ b:BusN,b.rd ((c.PC+1) % 65536+1)=b.rd (c.PC+2):=fun b=>rd_of b dQ
 have K:∀ b:BusN,b.get ((c.PC+1) % 65536+1)=b.get (c.PC+2):=fun b=>tAA b dQ
 have E:∀ b:BusN,b.rd ((c.PC+2) % 65536)=b.rd (c.PC+2):=fun b=>rd_of b dQ
 have r:∀ b:BusN,b.get ((c.PC+2) % 65536)=b.get (c.PC+2):=fun b=>tAA b dQ
 have H:((c.PC+1) % 65536+1) % 65536=(c.PC+2) % 65536:=dQ;have e4:(c.PC+2+1) % 65536=(c.PC+3) % 65536:=dQ;have e5:((c.PC+2) % 65536+1) % 65536=(c.PC+3) % 65536:=dQ;have hz:=hb (c.PC+1);have e6:=zAB hz;simp[St.place,kAA,baseN,St.readW,St.fetch,St.indexed,B,j,H,idxN,cDA,e6];unfold rAA;generalize word (b.get (b.get (c.PC+1))) (b.get ((b.get (c.PC+1)+1) % 256))=u;have e7:(u+c.Y) % 65536 % 256=(u+c.Y) % 256:=dQ;rw[e7];by_cases hk:k=2<;>by_cases hw:u / 256*256+(u+c.Y) % 256=(u+c.Y) % 65536<;>simp[hk,hw]
theorem rBB (c:CpuN) (b:BusN) (hb:∀ a,b.get a < 256) (m k:Int) (hm:m=3\/m=4\/m=5\/m=6\/m=7\/m=8\/m=10\/m=11):(⟨{ c with PC:=(c.PC+1) % 65536 },b⟩:St).place m k=((kAA b c m k).1,⟨{ c with PC:=(c.PC+(gDA m).toNat) % 65536 },(kAA b c m k).2⟩):=by
 rcases hm with rfl|rfl|rfl|rfl|rfl|rfl|rfl|rfl
 ·exact aVA c b hb k
 ·exact bVA c b hb k
 ·exact cVA c b hb k
 ·exact dVA c b hb k
 ·exact eVA c b hb k
 ·exact fVA c b hb k
 ·exact sRA c b hb k
 ·exact tRA c b hb k
theorem mFB (c:CpuN) (hc:c.ok) (b:BusN) (hb:∀ a,b.get a < 256) (m:Int):(⟨{ c with PC:=(c.PC+1) % 65536 },b⟩:St).backP=⟨(goN b c [82,84,83] m).1,(goN b c [82,84,83] m).2⟩:=by
 obtain⟨hA,hX,hY,hS,hP⟩:=hc;have B:∀ b:BusN,b.rd ((c.PC+1) % 65536)=b.rd (c.PC+1):=fun b=>rd_of b dQ
 have j:∀ b:BusN,b.get ((c.PC+1) % 65536)=b.get (c.PC+1):=fun b=>tAA b dQ
 have E:∀ b:BusN,b.rd ((c.PC+2) % 65536)=b.rd (c.PC+2):=fun b=>rd_of b dQ
 have r:∀ b:BusN,b.get ((c.PC+2) % 65536)=b.get (c.PC+2):=fun b=>tAA b dQ
 have H:((c.PC+1) % 65536+1) % 65536=(c.PC+2) % 65536:=dQ;have R:stk (c.S % 256)=stk c.S:=mAA dQ;have T:stk ((c.S+255) % 256)=stk (c.S+255):=mAA dQ;have U:stk (((c.S+255) % 256+255) % 256)=stk (c.S+254):=mAA dQ;have W:stk ((c.S+1) % 256+1)=stk (c.S+2):=mAA dQ;have s5:stk (((c.S+1) % 256+1) % 256+1)=stk (c.S+3):=mAA dQ;have t2:((c.S+255) % 256+255) % 256=(c.S+254) % 256:=dQ;have t3:((c.S+254) % 256+255) % 256=(c.S+253) % 256:=dQ;have t4:((c.S+1) % 256+1) % 256=(c.S+2) % 256:=dQ;have t5:((c.S+2) % 256+1) % 256=(c.S+3) % 256:=dQ;have s6:stk ((c.S+254) % 256)=stk (c.S+254):=mAA dQ;have t6:(c.PC+2) % 65536 / 256 % 256=(c.PC+2) % 65536 / 256:=dQ;have O:rAA 65534 65535=65535:=rfl;have Q:rAA 65530 65531=65531:=rfl;have t7:c.PC / 256 % 256=c.PC / 256:=dQ;have s7:stk ((c.S+2) % 256+1)=stk (c.S+3):=mAA dQ;simp[goN,holdN,pushN,St.jumpP,St.subP,St.backP,St.rtiP,St.brkP,St.pushP,St.pullP,St.fetchW,St.readW,St.fetch,St.idle,St.idleStk,St.pushPC,St.push,St.pullPC,St.pull,St.inter,CpuN.unpack,CpuN.pk,CpuN.nz,B,j,E,r,H,R,T,U,W,s5,s6,s7,t2,t3,t4,t5,t6,t7,O,Q,cDA]
theorem lFB (c:CpuN) (hc:c.ok) (b:BusN) (hb:∀ a,b.get a < 256) (m:Int):(⟨{ c with PC:=(c.PC+1) % 65536 },b⟩:St).rtiP=⟨(goN b c [82,84,73] m).1,(goN b c [82,84,73] m).2⟩:=by
 obtain⟨hA,hX,hY,hS,hP⟩:=hc;have B:∀ b:BusN,b.rd ((c.PC+1) % 65536)=b.rd (c.PC+1):=fun b=>rd_of b dQ
 have j:∀ b:BusN,b.get ((c.PC+1) % 65536)=b.get (c.PC+1):=fun b=>tAA b dQ
 have E:∀ b:BusN,b.rd ((c.PC+2) % 65536)=b.rd (c.PC+2):=fun b=>rd_of b dQ
 have r:∀ b:BusN,b.get ((c.PC+2) % 65536)=b.get (c.PC+2):=fun b=>tAA b dQ
 have H:((c.PC+1) % 65536+1) % 65536=(c.PC+2) % 65536:=dQ;have R:stk (c.S % 256)=stk c.S:=mAA dQ;have T:stk ((c.S+255) % 256)=stk (c.S+255):=mAA dQ;have U:stk (((c.S+255) % 256+255) % 256)=stk (c.S+254):=mAA dQ;have W:stk ((c.S+1) % 256+1)=stk (c.S+2):=mAA dQ;have s5:stk (((c.S+1) % 256+1) % 256+1)=stk (c.S+3):=mAA dQ;have t2:((c.S+255) % 256+255) % 256=(c.S+254) % 256:=dQ;have t3:((c.S+254) % 256+255) % 256=(c.S+253) % 256:=dQ;have t4:((c.S+1) % 256+1) % 256=(c.S+2) % 256:=dQ;have t5:((c.S+2) % 256+1) % 256=(c.S+3) % 256:=dQ;have s6:stk ((c.S+254) % 256)=stk (c.S+254):=mAA dQ;have t6:(c.PC+2) % 65536 / 256 % 256=(c.PC+2) % 65536 / 256:=dQ;have O:rAA 65534 65535=65535:=rfl;have Q:rAA 65530 65531=65531:=rfl;have t7:c.PC / 256 % 256=c.PC / 256:=dQ;have s7:stk ((c.S+2) % 256+1)=stk (c.S+3):=mAA dQ;simp[goN,holdN,pushN,St.jumpP,St.subP,St.backP,St.rtiP,St.brkP,St.pushP,St.pullP,St.fetchW,St.readW,St.fetch,St.idle,St.idleStk,St.pushPC,St.push,St.pullPC,St.pull,St.inter,CpuN.unpack,CpuN.pk,CpuN.nz,B,j,E,r,H,R,T,U,W,s5,s6,s7,t2,t3,t4,t5,t6,t7,O,Q,cDA]
theorem gFB (c:CpuN) (hc:c.ok) (b:BusN) (hb:∀ a,b.get a < 256) (m:Int):(⟨{ c with PC:=(c.PC+1) % 65536 },b⟩:St).subP=⟨(goN b c [74,83,82] m).1,(goN b c [74,83,82] m).2⟩:=by
 obtain⟨hA,hX,hY,hS,hP⟩:=hc;have B:∀ b:BusN,b.rd ((c.PC+1) % 65536)=b.rd (c.PC+1):=fun b=>rd_of b dQ
 have j:∀ b:BusN,b.get ((c.PC+1) % 65536)=b.get (c.PC+1):=fun b=>tAA b dQ
 have E:∀ b:BusN,b.rd ((c.PC+2) % 65536)=b.rd (c.PC+2):=fun b=>rd_of b dQ
 have r:∀ b:BusN,b.get ((c.PC+2) % 65536)=b.get (c.PC+2):=fun b=>tAA b dQ
 have H:((c.PC+1) % 65536+1) % 65536=(c.PC+2) % 65536:=dQ;have R:stk (c.S % 256)=stk c.S:=mAA dQ;have T:stk ((c.S+255) % 256)=stk (c.S+255):=mAA dQ;have U:stk (((c.S+255) % 256+255) % 256)=stk (c.S+254):=mAA dQ;have W:stk ((c.S+1) % 256+1)=stk (c.S+2):=mAA dQ;have s5:stk (((c.S+1) % 256+1) % 256+1)=stk (c.S+3):=mAA dQ;have t2:((c.S+255) % 256+255) % 256=(c.S+254) % 256:=dQ;have t3:((c.S+254) % 256+255) % 256=(c.S+253) % 256:=dQ;have t4:((c.S+1) % 256+1) % 256=(c.S+2) % 256:=dQ;have t5:((c.S+2) % 256+1) % 256=(c.S+3) % 256:=dQ;have s6:stk ((c.S+254) % 256)=stk (c.S+254):=mAA dQ;have t6:(c.PC+2) % 65536 / 256 % 256=(c.PC+2) % 65536 / 256:=dQ;have O:rAA 65534 65535=65535:=rfl;have Q:rAA 65530 65531=65531:=rfl;have t7:c.PC / 256 % 256=c.PC / 256:=dQ;have s7:stk ((c.S+2) % 256+1)=stk (c.S+3):=mAA dQ;simp[goN,holdN,pushN,St.jumpP,St.subP,St.backP,St.rtiP,St.brkP,St.pushP,St.pullP,St.fetchW,St.readW,St.fetch,St.idle,St.idleStk,St.pushPC,St.push,St.pullPC,St.pull,St.inter,CpuN.unpack,CpuN.pk,CpuN.nz,B,j,E,r,H,R,T,U,W,s5,s6,s7,t2,t3,t4,t5,t6,t7,O,Q,cDA]
theorem fFB (c:CpuN) (hc:c.ok) (b:BusN) (hb:∀ a,b.get a < 256) (m:Int):(⟨{ c with PC:=(c.PC+1) % 65536 },b⟩:St).brkP=⟨(goN b c [66,82,75] m).1,(goN b c [66,82,75] m).2⟩:=by
 obtain⟨hA,hX,hY,hS,hP⟩:=hc;have B:∀ b:BusN,b.rd ((c.PC+1) % 65536)=b.rd (c.PC+1):=fun b=>rd_of b dQ
 have j:∀ b:BusN,b.get ((c.PC+1) % 65536)=b.get (c.PC+1):=fun b=>tAA b dQ
 have E:∀ b:BusN,b.rd ((c.PC+2) % 65536)=b.rd (c.PC+2):=fun b=>rd_of b dQ
 have r:∀ b:BusN,b.get ((c.PC+2) % 65536)=b.get (c.PC+2):=fun b=>tAA b dQ
 have H:((c.PC+1) % 65536+1) % 65536=(c.PC+2) % 65536:=dQ;have R:stk (c.S % 256)=stk c.S:=mAA dQ;have T:stk ((c.S+255) % 256)=stk (c.S+255):=mAA dQ;have U:stk (((c.S+255) % 256+255) % 256)=stk (c.S+254):=mAA dQ;have W:stk ((c.S+1) % 256+1)=stk (c.S+2):=mAA dQ;have s5:stk (((c.S+1) % 256+1) % 256+1)=stk (c.S+3):=mAA dQ;have t2:((c.S+255) % 256+255) % 256=(c.S+254) % 256:=dQ;have t3:((c.S+254) % 256+255) % 256=(c.S+253) % 256:=dQ;have t4:((c.S+1) % 256+1) % 256=(c.S+2) % 256:=dQ;have t5:((c.S+2) % 256+1) % 256=(c.S+3) % 256:=dQ;have s6:stk ((c.S+254) % 256)=stk (c.S+254):=mAA dQ;have t6:(c.PC+2) % 65536 / 256 % 256=(c.PC+2) % 65536 / 256:=dQ;have O:rAA 65534 65535=65535:=rfl;have Q:rAA 65530 65531=65531:=rfl;have t7:c.PC / 256 % 256=c.PC / 256:=dQ;have s7:stk ((c.S+2) % 256+1)=stk (c.S+3):=mAA dQ;simp[goN,holdN,pushN,St.jumpP,St.subP,St.backP,St.rtiP,St.brkP,St.pushP,St.pullP,St.fetchW,St.readW,St.fetch,St.idle,St.idleStk,St.pushPC,St.push,St.pullPC,St.pull,St.inter,CpuN.unpack,CpuN.pk,CpuN.nz,B,j,E,r,H,R,T,U,W,s5,s6,s7,t2,t3,t4,t5,t6,t7,O,Q,cDA]
theorem yCB (c:CpuN) (hc:c.ok) (b:BusN) (hb:∀ a,b.get a < 256):(⟨{ c with PC:=(c.PC+1) % 65536 },b⟩:St).jumpP 6=⟨(goN b c [74,77,80] 6).1,(goN b c [74,77,80] 6).2⟩:=by
 obtain⟨hA,hX,hY,hS,hP⟩:=hc;have B:∀ b:BusN,b.rd ((c.PC+1) % 65536)=b.rd (c.PC+1):=fun b=>rd_of b dQ
 have j:∀ b:BusN,b.get ((c.PC+1) % 65536)=b.get (c.PC+1):=fun b=>tAA b dQ
 have E:∀ b:BusN,b.rd ((c.PC+2) % 65536)=b.rd (c.PC+2):=fun b=>rd_of b dQ
 have r:∀ b:BusN,b.get ((c.PC+2) % 65536)=b.get (c.PC+2):=fun b=>tAA b dQ
 have H:((c.PC+1) % 65536+1) % 65536=(c.PC+2) % 65536:=dQ;have R:stk (c.S % 256)=stk c.S:=mAA dQ;have T:stk ((c.S+255) % 256)=stk (c.S+255):=mAA dQ;have U:stk (((c.S+255) % 256+255) % 256)=stk (c.S+254):=mAA dQ;have W:stk ((c.S+1) % 256+1)=stk (c.S+2):=mAA dQ;have s5:stk (((c.S+1) % 256+1) % 256+1)=stk (c.S+3):=mAA dQ;have t2:((c.S+255) % 256+255) % 256=(c.S+254) % 256:=dQ;have t3:((c.S+254) % 256+255) % 256=(c.S+253) % 256:=dQ;have t4:((c.S+1) % 256+1) % 256=(c.S+2) % 256:=dQ;have t5:((c.S+2) % 256+1) % 256=(c.S+3) % 256:=dQ;have s6:stk ((c.S+254) % 256)=stk (c.S+254):=mAA dQ;have t6:(c.PC+2) % 65536 / 256 % 256=(c.PC+2) % 65536 / 256:=dQ;have O:rAA 65534 65535=65535:=rfl;have Q:rAA 65530 65531=65531:=rfl;have t7:c.PC / 256 % 256=c.PC / 256:=dQ;have s7:stk ((c.S+2) % 256+1)=stk (c.S+3):=mAA dQ;simp[goN,holdN,pushN,St.jumpP,St.subP,St.backP,St.rtiP,St.brkP,St.pushP,St.pullP,St.fetchW,St.readW,St.fetch,St.idle,St.idleStk,St.pushPC,St.push,St.pullPC,St.pull,St.inter,CpuN.unpack,CpuN.pk,CpuN.nz,B,j,E,r,H,R,T,U,W,s5,s6,s7,t2,t3,t4,t5,t6,t7,O,Q,cDA]
theorem zCB (c:CpuN) (hc:c.ok) (b:BusN) (hb:∀ a,b.get a < 256):(⟨{ c with PC:=(c.PC+1) % 65536 },b⟩:St).jumpP 9=⟨(goN b c [74,77,80] 9).1,(goN b c [74,77,80] 9).2⟩:=by
 obtain⟨hA,hX,hY,hS,hP⟩:=hc;have B:∀ b:BusN,b.rd ((c.PC+1) % 65536)=b.rd (c.PC+1):=fun b=>rd_of b dQ
 have j:∀ b:BusN,b.get ((c.PC+1) % 65536)=b.get (c.PC+1):=fun b=>tAA b dQ
 have E:∀ b:BusN,b.rd ((c.PC+2) % 65536)=b.rd (c.PC+2):=fun b=>rd_of b dQ
 have r:∀ b:BusN,b.get ((c.PC+2) % 65536)=b.get (c.PC+2):=fun b=>tAA b dQ
 have H:((c.PC+1) % 65536+1) % 65536=(c.PC+2) % 65536:=dQ;have R:stk (c.S % 256)=stk c.S:=mAA dQ;have T:stk ((c.S+255) % 256)=stk (c.S+255):=mAA dQ;have U:stk (((c.S+255) % 256+255) % 256)=stk (c.S+254):=mAA dQ;have W:stk ((c.S+1) % 256+1)=stk (c.S+2):=mAA dQ;have s5:stk (((c.S+1) % 256+1) % 256+1)=stk (c.S+3):=mAA dQ;have t2:((c.S+255) % 256+255) % 256=(c.S+254) % 256:=dQ;have t3:((c.S+254) % 256+255) % 256=(c.S+253) % 256:=dQ;have t4:((c.S+1) % 256+1) % 256=(c.S+2) % 256:=dQ;have t5:((c.S+2) % 256+1) % 256=(c.S+3) % 256:=dQ;have s6:stk ((c.S+254) % 256)=stk (c.S+254):=mAA dQ;have t6:(c.PC+2) % 65536 / 256 % 256=(c.PC+2) % 65536 / 256:=dQ;have O:rAA 65534 65535=65535:=rfl;have Q:rAA 65530 65531=65531:=rfl;have t7:c.PC / 256 % 256=c.PC / 256:=dQ;have s7:stk ((c.S+2) % 256+1)=stk (c.S+3):=mAA dQ;have hw:word (b.get (c.PC+1)) (b.get (c.PC+2)) < 65536:=by have:=hb (c.PC+1);have:=hb (c.PC+2);unfold word;omega
 have e6:=yAB hw;simp[goN,holdN,pushN,St.jumpP,St.subP,St.backP,St.rtiP,St.brkP,St.pushP,St.pullP,St.fetchW,St.readW,St.fetch,St.idle,St.idleStk,St.pushPC,St.push,St.pullPC,St.pull,St.inter,CpuN.unpack,CpuN.pk,CpuN.nz,B,j,E,r,H,R,T,U,W,s5,s6,s7,t2,t3,t4,t5,t6,t7,O,Q,cDA,e6]
theorem hFB (c:CpuN) (hc:c.ok) (b:BusN) (hb:∀ a,b.get a < 256) (m:Int):(⟨{ c with PC:=(c.PC+1) % 65536 },b⟩:St).pushP [80,72,65]=⟨(goN b c [80,72,65] m).1,(goN b c [80,72,65] m).2⟩:=by
 obtain⟨hA,hX,hY,hS,hP⟩:=hc;have B:∀ b:BusN,b.rd ((c.PC+1) % 65536)=b.rd (c.PC+1):=fun b=>rd_of b dQ
 have j:∀ b:BusN,b.get ((c.PC+1) % 65536)=b.get (c.PC+1):=fun b=>tAA b dQ
 have E:∀ b:BusN,b.rd ((c.PC+2) % 65536)=b.rd (c.PC+2):=fun b=>rd_of b dQ
 have r:∀ b:BusN,b.get ((c.PC+2) % 65536)=b.get (c.PC+2):=fun b=>tAA b dQ
 have H:((c.PC+1) % 65536+1) % 65536=(c.PC+2) % 65536:=dQ;have R:stk (c.S % 256)=stk c.S:=mAA dQ;have T:stk ((c.S+255) % 256)=stk (c.S+255):=mAA dQ;have U:stk (((c.S+255) % 256+255) % 256)=stk (c.S+254):=mAA dQ;have W:stk ((c.S+1) % 256+1)=stk (c.S+2):=mAA dQ;have s5:stk (((c.S+1) % 256+1) % 256+1)=stk (c.S+3):=mAA dQ;have t2:((c.S+255) % 256+255) % 256=(c.S+254) % 256:=dQ;have t3:((c.S+254) % 256+255) % 256=(c.S+253) % 256:=dQ;have t4:((c.S+1) % 256+1) % 256=(c.S+2) % 256:=dQ;have t5:((c.S+2) % 256+1) % 256=(c.S+3) % 256:=dQ;have s6:stk ((c.S+254) % 256)=stk (c.S+254):=mAA dQ;have t6:(c.PC+2) % 65536 / 256 % 256=(c.PC+2) % 65536 / 256:=dQ;have O:rAA 65534 65535=65535:=rfl;have Q:rAA 65530 65531=65531:=rfl;have t7:c.PC / 256 % 256=c.PC / 256:=dQ;have s7:stk ((c.S+2) % 256+1)=stk (c.S+3):=mAA dQ;simp[goN,holdN,pushN,St.jumpP,St.subP,St.backP,St.rtiP,St.brkP,St.pushP,St.pullP,St.fetchW,St.readW,St.fetch,St.idle,St.idleStk,St.pushPC,St.push,St.pullPC,St.pull,St.inter,CpuN.unpack,CpuN.pk,CpuN.nz,B,j,E,r,H,R,T,U,W,s5,s6,s7,t2,t3,t4,t5,t6,t7,O,Q,cDA]
theorem iFB (c:CpuN) (hc:c.ok) (b:BusN) (hb:∀ a,b.get a < 256) (m:Int):(⟨{ c with PC:=(c.PC+1) % 65536 },b⟩:St).pushP [80,72,80]=⟨(goN b c [80,72,80] m).1,(goN b c [80,72,80] m).2⟩:=by
 obtain⟨hA,hX,hY,hS,hP⟩:=hc;have B:∀ b:BusN,b.rd ((c.PC+1) % 65536)=b.rd (c.PC+1):=fun b=>rd_of b dQ
 have j:∀ b:BusN,b.get ((c.PC+1) % 65536)=b.get (c.PC+1):=fun b=>tAA b dQ
 have E:∀ b:BusN,b.rd ((c.PC+2) % 65536)=b.rd (c.PC+2):=fun b=>rd_of b dQ
 have r:∀ b:BusN,b.get ((c.PC+2) % 65536)=b.get (c.PC+2):=fun b=>tAA b dQ
 have H:((c.PC+1) % 65536+1) % 65536=(c.PC+2) % 65536:=dQ;have R:stk (c.S % 256)=stk c.S:=mAA dQ;have T:stk ((c.S+255) % 256)=stk (c.S+255):=mAA dQ;have U:stk (((c.S+255) % 256+255) % 256)=stk (c.S+254):=mAA dQ;have W:stk ((c.S+1) % 256+1)=stk (c.S+2):=mAA dQ;have s5:stk (((c.S+1) % 256+1) % 256+1)=stk (c.S+3):=mAA dQ;have t2:((c.S+255) % 256+255) % 256=(c.S+254) % 256:=dQ;have t3:((c.S+254) % 256+255) % 256=(c.S+253) % 256:=dQ;have t4:((c.S+1) % 256+1) % 256=(c.S+2) % 256:=dQ;have t5:((c.S+2) % 256+1) % 256=(c.S+3) % 256:=dQ;have s6:stk ((c.S+254) % 256)=stk (c.S+254):=mAA dQ;have t6:(c.PC+2) % 65536 / 256 % 256=(c.PC+2) % 65536 / 256:=dQ;have O:rAA 65534 65535=65535:=rfl;have Q:rAA 65530 65531=65531:=rfl;have t7:c.PC / 256 % 256=c.PC / 256:=dQ;have s7:stk ((c.S+2) % 256+1)=stk (c.S+3):=mAA dQ;simp[goN,holdN,pushN,St.jumpP,St.subP,St.backP,St.rtiP,St.brkP,St.pushP,St.pullP,St.fetchW,St.readW,St.fetch,St.idle,St.idleStk,St.pushPC,St.push,St.pullPC,St.pull,St.inter,CpuN.unpack,CpuN.pk,CpuN.nz,B,j,E,r,H,R,T,U,W,s5,s6,s7,t2,t3,t4,t5,t6,t7,O,Q,cDA]
theorem jFB (c:CpuN) (hc:c.ok) (b:BusN) (hb:∀ a,b.get a < 256) (m:Int):(⟨{ c with PC:=(c.PC+1) % 65536 },b⟩:St).pullP [80,76,65]=⟨(goN b c [80,76,65] m).1,(goN b c [80,76,65] m).2⟩:=by
 obtain⟨hA,hX,hY,hS,hP⟩:=hc;have B:∀ b:BusN,b.rd ((c.PC+1) % 65536)=b.rd (c.PC+1):=fun b=>rd_of b dQ
 have j:∀ b:BusN,b.get ((c.PC+1) % 65536)=b.get (c.PC+1):=fun b=>tAA b dQ
 have E:∀ b:BusN,b.rd ((c.PC+2) % 65536)=b.rd (c.PC+2):=fun b=>rd_of b dQ
 have r:∀ b:BusN,b.get ((c.PC+2) % 65536)=b.get (c.PC+2):=fun b=>tAA b dQ
 have H:((c.PC+1) % 65536+1) % 65536=(c.PC+2) % 65536:=dQ;have R:stk (c.S % 256)=stk c.S:=mAA dQ;have T:stk ((c.S+255) % 256)=stk (c.S+255):=mAA dQ;have U:stk (((c.S+255) % 256+255) % 256)=stk (c.S+254):=mAA dQ;have W:stk ((c.S+1) % 256+1)=stk (c.S+2):=mAA dQ;have s5:stk (((c.S+1) % 256+1) % 256+1)=stk (c.S+3):=mAA dQ;have t2:((c.S+255) % 256+255) % 256=(c.S+254) % 256:=dQ;have t3:((c.S+254) % 256+255) % 256=(c.S+253) % 256:=dQ;have t4:((c.S+1) % 256+1) % 256=(c.S+2) % 256:=dQ;have t5:((c.S+2) % 256+1) % 256=(c.S+3) % 256:=dQ;have s6:stk ((c.S+254) % 256)=stk (c.S+254):=mAA dQ;have t6:(c.PC+2) % 65536 / 256 % 256=(c.PC+2) % 65536 / 256:=dQ;have O:rAA 65534 65535=65535:=rfl;have Q:rAA 65530 65531=65531:=rfl;have t7:c.PC / 256 % 256=c.PC / 256:=dQ;have s7:stk ((c.S+2) % 256+1)=stk (c.S+3):=mAA dQ;simp[goN,holdN,pushN,St.jumpP,St.subP,St.backP,St.rtiP,St.brkP,St.pushP,St.pullP,St.fetchW,St.readW,St.fetch,St.idle,St.idleStk,St.pushPC,St.push,St.pullPC,St.pull,St.inter,CpuN.unpack,CpuN.pk,CpuN.nz,B,j,E,r,H,R,T,U,W,s5,s6,s7,t2,t3,t4,t5,t6,t7,O,Q,cDA]
theorem kFB (c:CpuN) (hc:c.ok) (b:BusN) (hb:∀ a,b.get a < 256) (m:Int):(⟨{ c with PC:=(c.PC+1) % 65536 },b⟩:St).pullP [80,76,80]=⟨(goN b c [80,76,80] m).1,(goN b c [80,76,80] m).2⟩:=by
 obtain⟨hA,hX,hY,hS,hP⟩:=hc;have B:∀ b:BusN,b.rd ((c.PC+1) % 65536)=b.rd (c.PC+1):=fun b=>rd_of b dQ
 have j:∀ b:BusN,b.get ((c.PC+1) % 65536)=b.get (c.PC+1):=fun b=>tAA b dQ
 have E:∀ b:BusN,b.rd ((c.PC+2) % 65536)=b.rd (c.PC+2):=fun b=>rd_of b dQ
 have r:∀ b:BusN,b.get ((c.PC+2) % 65536)=b.get (c.PC+2):=fun b=>tAA b dQ
 have H:((c.PC+1) % 65536+1) % 65536=(c.PC+2) % 65536:=dQ;have R:stk (c.S % 256)=stk c.S:=mAA dQ;have T:stk ((c.S+255) % 256)=stk (c.S+255):=mAA dQ;have U:stk (((c.S+255) % 256+255) % 256)=stk (c.S+254):=mAA dQ;have W:stk ((c.S+1) % 256+1)=stk (c.S+2):=mAA dQ;have s5:stk (((c.S+1) % 256+1) % 256+1)=stk (c.S+3):=mAA dQ;have t2:((c.S+255) % 256+255) % 256=(c.S+254) % 256:=dQ;have t3:((c.S+254) % 256+255) % 256=(c.S+253) % 256:=dQ;have t4:((c.S+1) % 256+1) % 256=(c.S+2) % 256:=dQ;have t5:((c.S+2) % 256+1) % 256=(c.S+3) % 256:=dQ;have s6:stk ((c.S+254) % 256)=stk (c.S+254):=mAA dQ;have t6:(c.PC+2) % 65536 / 256 % 256=(c.PC+2) % 65536 / 256:=dQ;have O:rAA 65534 65535=65535:=rfl;have Q:rAA 65530 65531=65531:=rfl;have t7:c.PC / 256 % 256=c.PC / 256:=dQ;have s7:stk ((c.S+2) % 256+1)=stk (c.S+3):=mAA dQ;simp[goN,holdN,pushN,St.jumpP,St.subP,St.backP,St.rtiP,St.brkP,St.pushP,St.pullP,St.fetchW,St.readW,St.fetch,St.idle,St.idleStk,St.pushPC,St.push,St.pullPC,St.pull,St.inter,CpuN.unpack,CpuN.pk,CpuN.nz,B,j,E,r,H,R,T,U,W,s5,s6,s7,t2,t3,t4,t5,t6,t7,O,Q,cDA]
theorem bCB (c:CpuN) (hc:c.ok) (b:BusN) (nmi:Bool):(⟨c,b⟩:St).idle.idle.inter (if nmi then 65530 else 65534) false=⟨(lFA b c nmi).1,(lFA b c nmi).2⟩:=by
 obtain⟨hA,hX,hY,hS,hP⟩:=hc;have B:∀ b:BusN,b.rd ((c.PC+1) % 65536)=b.rd (c.PC+1):=fun b=>rd_of b dQ
 have j:∀ b:BusN,b.get ((c.PC+1) % 65536)=b.get (c.PC+1):=fun b=>tAA b dQ
 have E:∀ b:BusN,b.rd ((c.PC+2) % 65536)=b.rd (c.PC+2):=fun b=>rd_of b dQ
 have r:∀ b:BusN,b.get ((c.PC+2) % 65536)=b.get (c.PC+2):=fun b=>tAA b dQ
 have H:((c.PC+1) % 65536+1) % 65536=(c.PC+2) % 65536:=dQ;have R:stk (c.S % 256)=stk c.S:=mAA dQ;have T:stk ((c.S+255) % 256)=stk (c.S+255):=mAA dQ;have U:stk (((c.S+255) % 256+255) % 256)=stk (c.S+254):=mAA dQ;have W:stk ((c.S+1) % 256+1)=stk (c.S+2):=mAA dQ;have s5:stk (((c.S+1) % 256+1) % 256+1)=stk (c.S+3):=mAA dQ;have t2:((c.S+255) % 256+255) % 256=(c.S+254) % 256:=dQ;have t3:((c.S+254) % 256+255) % 256=(c.S+253) % 256:=dQ;have t4:((c.S+1) % 256+1) % 256=(c.S+2) % 256:=dQ;have t5:((c.S+2) % 256+1) % 256=(c.S+3) % 256:=dQ;have s6:stk ((c.S+254) % 256)=stk (c.S+254):=mAA dQ;have t6:(c.PC+2) % 65536 / 256 % 256=(c.PC+2) % 65536 / 256:=dQ;have O:rAA 65534 65535=65535:=rfl;have Q:rAA 65530 65531=65531:=rfl;have t7:c.PC / 256 % 256=c.PC / 256:=dQ;have s7:stk ((c.S+2) % 256+1)=stk (c.S+3):=mAA dQ;cases nmi<;>simp[lFA,pushN,St.idle,St.pushPC,St.push,St.inter,St.readW,CpuN.pk,B,j,E,r,H,R,T,U,W,s5,s6,s7,t2,t3,t4,t5,t6,t7,O,Q,cDA]
theorem eXA (c:CpuN) (hc:c.ok) (b:BusN) (l:List UInt8):(⟨{ c with PC:=(c.PC+1) % 65536 },b⟩:St).branchP l=⟨(fBA b c l).1,(fBA b c l).2⟩:=by
 obtain⟨hA,hX,hY,hS,hP⟩:=hc;have B:∀ b:BusN,b.rd ((c.PC+1) % 65536)=b.rd (c.PC+1):=fun b=>rd_of b dQ
 have j:∀ b:BusN,b.get ((c.PC+1) % 65536)=b.get (c.PC+1):=fun b=>tAA b dQ
 have E:∀ b:BusN,b.rd ((c.PC+2) % 65536)=b.rd (c.PC+2):=fun b=>rd_of b dQ
 have r:∀ b:BusN,b.get ((c.PC+2) % 65536)=b.get (c.PC+2):=fun b=>tAA b dQ
 have H:((c.PC+1) % 65536+1) % 65536=(c.PC+2) % 65536:=dQ;have hh:∀ q,aBA { c with PC:=q } l=aBA c l:=fun q=>kXA c l q
 unfold St.branchP fBA;simp only[St.fetch,St.idle,H,hh,B,j,E];cases aBA c l with
 | false=>rfl
 | true=>
  simp only[if_true];unfold rAA;split<;>rfl
theorem tLA (c:CpuN) (b:BusN) (hb:∀ a,b.get a < 256) (n:Nat) (hm:iAA n=2\/iAA n=3\/iAA n=4\/iAA n=5\/iAA n=6\/iAA n=7\/iAA n=8\/iAA n=10\/iAA n=11) (hz:sAA n=gDA (iAA n))
  (hk:eAA n=2\/(eAA n=3/\iAA n≠2)\/(eAA n=4/\iAA n≠2)):(⟨{ c with PC:=(c.PC+1) % 65536 },b⟩:St).kindP n=⟨(dataN b c n).1,(dataN b c n).2⟩:=by
 have B:∀ b:BusN,b.rd ((c.PC+1) % 65536)=b.rd (c.PC+1):=fun b=>rd_of b dQ
 have j:∀ b:BusN,b.get ((c.PC+1) % 65536)=b.get (c.PC+1):=fun b=>tAA b dQ
 have E:∀ b:BusN,b.rd ((c.PC+2) % 65536)=b.rd (c.PC+2):=fun b=>rd_of b dQ
 have r:∀ b:BusN,b.get ((c.PC+2) % 65536)=b.get (c.PC+2):=fun b=>tAA b dQ
 have H:((c.PC+1) % 65536+1) % 65536=(c.PC+2) % 65536:=dQ;unfold St.kindP dataN;rw[hz];by_cases h2:iAA n=2
 ·have k2:eAA n=2:=by
   rcases hk with h|h|h
   ·exact h
   ·exact absurd h2 h.2
   ·exact absurd h2 h.2
  simp only[k2,h2,St.readP,St.place,if_true,reduceIte,Int.reduceEq,oMA,j,B,if_false,H,show (gDA 2).toNat=2 from rfl]
 ·have hp:=rBB c b hb (iAA n) (eAA n) dQ;rcases hk with k|⟨k,_⟩|⟨k,_⟩
  ·simp only[k,h2,St.readP,if_true,if_false,reduceIte,Int.reduceEq] at hp ⊢;rw[hp,oMA]
  ·simp only[k,h2,St.writeP,if_true,if_false,reduceIte,Int.reduceEq] at hp ⊢;rw[hp]
  ·simp only[k,h2,St.modP,if_true,if_false,reduceIte,Int.reduceEq] at hp ⊢;rw[hp]

end Go.Proofs.YtckfdbjjjgfbfaaGreat
