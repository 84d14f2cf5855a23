import Derived.Test.YtckfdbjjjgfbfaaGreatRPhr
import Derived.Test.YtckfdbjjjgfbfaaGreatRRunA
import Derived.Test.YtckfdbjjjgfbfaaGreatRCycRow
import Derived.Test.YtckfdbjjjgfbfaaGreatRRegRun
set_option linter.unusedVariables false
set_option linter.unusedSimpArgs false
namespace Go.Proofs.YtckfdbjjjgfbfaaGreat
open Go.RowKit
theorem uNA {c:CpuN} {L:List Nat} (hr:ramN L.length=true):(stepN c L).2.mem.length=L.length:=by
 unfold stepN;rw[if_pos hr];split
 ·rfl
 ·exact (eQA ⟨L,[]⟩ c).1
theorem eIA {c:CpuN} {L:List Nat} {nmi:Bool} (hr:ramN L.length=true):(lBA c L nmi).2.mem.length=L.length:=by
 unfold lBA;rw[if_pos hr];exact (xIA (((Grew.same ⟨L,[]⟩ 0).rd (a:=c.PC)).rd (a:=c.PC)) c c.PC false (if nmi then 65530 else 65534)).1
theorem jMA {c:CpuN} {L:List Nat} (hr:ramN L.length=true) (hj:jamsN L c.PC=false):0 < (stepN c L).2.log.length:=by
 have h:=(zDB (L:=L) (by have:=eBA hr;omega) c).many;unfold stepN;rw[if_pos hr,if_neg (by rw[hj];exact Bool.false_ne_true)];omega
theorem pHA {c:CpuN} {L:List Nat} {nmi:Bool} (hr:ramN L.length=true):0 < (lBA c L nmi).2.log.length:=by
 unfold lBA;rw[if_pos hr];unfold uFA pushN;simp[BusN.rd,BusN.put]
theorem getD_set_ne (M:List Nat) {i j:Nat} (d:Nat) (h:j≠i):(M.set i d).getD j 0=M.getD j 0:=by
 simp[List.getD,List.getElem?_set_ne (Ne.symm h)]
theorem iUA (M:List Nat) {i j:Nat} (d:Nat) (h:j=i) (hi:i < M.length):(M.set i d).getD j 0=d:=by
 subst h;simp[List.getD,hi]
theorem aWA (n v H d i z c:Bool):(pkV n v H d i z c).toNat < 256:=by have:=iGA n v H d i z c;omega
def AllB (M:List Nat):Prop:=∀ i,M.getD i 0 < 256
theorem AllB.set {M:List Nat} (h:AllB M) (i:Nat) {d:Nat} (hd:d < 256):AllB (M.set i d):=by
 intro j;by_cases hj:j=i
 ·by_cases hi:i < M.length
  ·rw[iUA M d hj hi];exact hd
  ·rw[List.set_eq_of_length_le dQ];exact h j
 ·rw[getD_set_ne M d hj];exact h j
theorem iQA (n:Int):(IntKind.u8.wrap n).toNat < 256:=xQc
theorem or8R (a b:Int):(bits .or .u8 a b).toNat < 256:=iQA _
theorem and8R (a b:Int):(bits .and .u8 a b).toNat < 256:=iQA _
theorem xor8R (a b:Int):(bits .xor .u8 a b).toNat < 256:=iQA _
theorem adR8 (a b:Int) (d c:Bool):(adR a b d c).toNat < 256:=by have:=iKA a b d c;omega
theorem sbR8 (a b:Int) (d c:Bool):(sbR a b d c).toNat < 256:=by have:=oKA a b d c;omega
def BusN.byt (b:BusN):Prop:=∀ i,b.mem.getD i 0 < 256
theorem BusN.byt.get {b:BusN} (h:b.byt) (a:Nat):b.get a < 256:=h _
theorem BusN.byt.rd {b:BusN} (h:b.byt) (a:Nat):(b.rd a).byt:=h
theorem BusN.byt.put {b:BusN} (h:b.byt) (a:Nat) {d:Nat} (hd:d < 256):(b.put a d).byt:=fun i=>by
 show (b.mem.set (b.spot a) d).getD i 0 < 256;have hi:=h i;rw[List.getD_eq_getElem?_getD] at hi ⊢;rw[List.getElem?_set];split
 ·split
  ·exact hd
  ·simp
 ·exact hi
theorem lHA {x y:Nat} (hx:x < 256) (hy:y < 256):word x y < 65536:=by unfold word;omega
theorem fSA {p:Prop} [Decidable p] {a b:CpuN} (h1:a.ok) (h2:b.ok):(if p then a else b).ok:=by split<;>assumption
theorem oWA {c:CpuN} (h:c.ok) (l:List UInt8) {m:Nat} (hm:m < 256):(useL c l m).ok:=by
 unfold useL;repeat' (refine fSA ?_ ?_)
 all_goals(refine⟨?_,?_,?_,?_,?_⟩<;>first|exact h.1|exact h.2.1|exact h.2.2.1|exact h.2.2.2.1|exact h.2.2.2.2|exact hm|exact or8R _ _|exact and8R _ _|exact xor8R _ _|exact adR8 _ _ _ _|exact sbR8 _ _ _ _)
theorem nIB {c:CpuN} (h:c.ok) (l:List UInt8) (m:Nat):(c.chg l m).ok:=h
theorem iCB {c:CpuN} (h:c.ok) (l:List UInt8):(flagL c l).ok:=by
 unfold flagL;repeat' (refine fSA ?_ ?_)
 all_goals exact h
theorem lHB {c:CpuN} (h:c.ok) (l:List UInt8):(regL c l).ok:=by
 have m1:∀ x:Nat,x % 256 < 256:=fun x=>Nat.mod_lt _ iQ
 unfold regL;repeat' (refine fSA ?_ ?_)
 all_goals(refine⟨?_,?_,?_,?_,?_⟩<;>first|exact h.1|exact h.2.1|exact h.2.2.1|exact h.2.2.2.1|exact h.2.2.2.2|exact m1 _)
theorem tGB {c:CpuN} (h:c.ok) (l:List UInt8) (m:Int):(impL c l m).ok:=by
 unfold impL;split
 ·exact⟨fNA l c.A h.1 c.C,h.2⟩
 ·exact iCB (lHB h l) l
theorem oGA {c:CpuN} (h:c.ok) {q:Nat} (hq:q < 65536):({ c with PC:=q }:CpuN).ok:=⟨h.1,h.2.1,h.2.2.1,h.2.2.2.1,hq⟩
theorem m16 (x:Nat):x % 65536 < 65536:=Nat.mod_lt _ iQ
theorem m8 (x:Nat):x % 256 < 256:=Nat.mod_lt _ iQ
theorem uRA {b:BusN} {c:CpuN} (hb:b.byt) (h:c.ok) (U:Nat) (H:Bool) (T:Nat):(pushN b c U H T).1.ok/\(pushN b c U H T).2.byt:=by
 have hb3:=((hb.put (stk c.S) (m8 (U / 256))).put (stk (c.S+255)) (m8 U)).put (stk (c.S+254)) (aWA c.N c.V H c.D c.I c.Z c.C);exact⟨⟨h.1,h.2.1,h.2.2.1,m8 _,lHA (hb3.get _) (hb3.get _)⟩,hb3⟩
theorem jZA {b:BusN} {c:CpuN} (hb:b.byt) (h:c.ok) (l:List UInt8):(gBA b c l).1.ok/\(gBA b c l).2.byt:=by
 unfold gBA;dsimp only;split
 ·refine⟨oGA h (m16 _),?_⟩;show BusN.byt (if _ then _ else _);split
  ·exact hb
  ·exact hb
 ·exact⟨oGA h (m16 _),hb⟩
theorem cFB {b:BusN} {c:CpuN} (hb:b.byt) (h:c.ok) (l:List UInt8):(holdN b c l).1.ok/\(holdN b c l).2.byt:=by
 unfold holdN;dsimp only;split
 ·exact⟨⟨h.1,h.2.1,h.2.2.1,m8 _,m16 _⟩,hb.put _ h.1⟩
 ·split
  ·exact⟨⟨h.1,h.2.1,h.2.2.1,m8 _,m16 _⟩,hb.put _ (aWA _ _ _ _ _ _ _)⟩
  ·split
   ·exact⟨⟨h.1,h.2.1,h.2.2.1,m8 _,m16 _⟩,hb⟩
   ·exact⟨⟨hb.get _,h.2.1,h.2.2.1,m8 _,m16 _⟩,hb⟩
theorem rIB {b:BusN} {c:CpuN} (hb:b.byt) (h:c.ok) (l:List UInt8) (m:Int):(goN b c l m).1.ok/\(goN b c l m).2.byt:=by
 unfold goN;dsimp only;split
 ·split
  ·exact⟨oGA h (lHA (hb.get _) (hb.get _)),hb⟩
  ·exact⟨oGA h (lHA (hb.get _) (hb.get _)),hb⟩
 ·split
  ·have hb4:=(((hb.rd (c.PC+1)).rd (stk c.S)).put (stk c.S) (d:=(c.PC+2) % 65536 / 256) (by have:=m16 (c.PC+2);omega)).put (stk (c.S+255)) (m8 ((c.PC+2) % 65536));exact⟨⟨h.1,h.2.1,h.2.2.1,m8 _,lHA (hb.get _) (hb4.get _)⟩,hb4⟩
  ·split
   ·exact⟨⟨h.1,h.2.1,h.2.2.1,m8 _,m16 _⟩,hb⟩
   ·split
    ·exact⟨⟨h.1,h.2.1,h.2.2.1,m8 _,lHA (hb.get _) (hb.get _)⟩,hb⟩
    ·split
     ·exact uRA (hb.rd _) h _ _ _
     ·exact cFB (hb.rd _) h l
theorem xAB {b:BusN} (hb:b.byt) (c:CpuN) (m:Int):(baseN b c m).2.byt:=by
 unfold baseN;dsimp only;split<;>exact hb
theorem jXA {b:BusN} (hb:b.byt) (c:CpuN) (m k:Int):(kAA b c m k).2.byt:=by
 unfold kAA;dsimp only;repeat' split
 all_goals first|exact hb|exact xAB hb c m
theorem uXA {c:CpuN} (h:c.ok) (l:List UInt8):nCA c l < 256:=by
 unfold nCA;repeat' split
 ·exact h.2.1
 ·exact h.2.2.1
 ·exact h.1
theorem sCB {b:BusN} {c:CpuN} (hb:b.byt) (h:c.ok) (B:Nat):(dataN b c B).1.ok/\(dataN b c B).2.byt:=by
 unfold dataN;dsimp only;split
 ·exact⟨oGA (oWA h _ (hb.get _)) (m16 _),hb⟩
 ·have hp:=jXA hb c (hAA B) (eAA B);have J:=oGA h (m16 (c.PC+(rAA B).toNat));split
  ·exact⟨oWA J _ (hp.get _),hp⟩
  ·split
   ·exact⟨J,hp.put _ (uXA J _)⟩
   ·exact⟨nIB J _ _,((hp.rd _).put _ (hp.get _)).put _ (fNA _ _ (hp.get _) _)⟩
theorem yIB {b:BusN} {c:CpuN} (hb:b.byt) (h:c.ok):(opN b c).1.ok/\(opN b c).2.byt:=by
 unfold opN;dsimp only;split
 ·exact⟨oGA (tGB h _ _) (m16 _),hb⟩
 ·split
  ·exact jZA (hb.rd _) h _
  ·split
   ·exact sCB (hb.rd _) h _
   ·exact rIB (hb.rd _) h _ _
theorem iRA {c:CpuN} {L:List Nat} (h:c.ok) (hb:∀ i,L.getD i 0 < 256):(stepN c L).1.ok:=by
 unfold stepN;split
 ·split
  ·exact h
  ·exact (yIB (b:=⟨L,[]⟩) hb h).1
 ·exact zMA
theorem pIA {c:CpuN} {L:List Nat} (h:c.ok) (hb:∀ i,L.getD i 0 < 256) (nmi:Bool):(lBA c L nmi).1.ok:=by
 unfold lBA;split
 ·exact (uRA (b:=((⟨L,[]⟩:BusN).rd c.PC).rd c.PC) hb h _ _ _).1
 ·exact zMA
theorem RowB.all {w:World} {a:Option Addr} {L:List Nat} (h:RowB w a L) (i:Nat):L.getD i 0 < 256:=h.byte' i
def ShotN.int (s:ShotN):ShotI:=⟨s.cpu,s.mem,s.trace,s.starts.map (fun (n:Nat)=>(n:Int)),s.cpus,s.jam⟩
def runOk (L:List Nat) (E:List EvN) (n:Int):Prop:=ramN L.length=true/\0<=n/\n<=120/\E.length<=16
instance (L:List Nat) (E:List EvN) (n:Int):Decidable (runOk L E n):=by unfold runOk;exact inferInstance
def aFA (c:CpuN) (L:List Nat) (E:List EvN) (n:Int):ShotN:=if runOk L E n then runN c L E n.toNat else ⟨cpu0,[],[],[],[],false⟩
def Shown (w:World) (s:ShotI) (e:Ending) (w':World):Prop:=∃ m t st p,e=.returned (shotV s.cpu m t st p s.jam)/\iBA w' w.heap.size w'.heap.size m t st p s/\Below w.heap.size w w'
structure Under (c:CpuN) (L:List Nat) (E:List EvN) (k:Nat) (s:ShotN):Prop where
 is:s=wBA E k 0 (hCA c L)
 ok:s.cpu.ok
 ram:s.mem.length=L.length
 many:s.trace.length<=8*k
 starts:s.starts.length=k
 cpus:s.cpus.length=k
 jam:s.jam=false
theorem kMA (E:List EvN) (k:Nat) (s:ShotN) (h:(wBA E k 0 s).jam=false):wBA E (k+1) 0 s=unitN E k (wBA E k 0 s):=by
 rw[rIA E k 1 0 s,Nat.zero_add,pFA,if_neg (by rw[h];exact Bool.false_ne_true)];rfl
theorem Under.on {c:CpuN} {L:List Nat} {E:List EvN} {k:Nat} {s:ShotN} (h:Under c L E k s) {r:CpuN×BusN} (hu:unitN E k s=s.on r) (W:r.1.ok) (hm:r.2.mem.length=s.mem.length) (hl:r.2.log.length<=8):Under c L E (k+1) (s.on r):=by
 have e:=kMA E k (hCA c L) (by rw[<-h.is];exact h.jam);rw[<-h.is,hu] at e;refine⟨e.symm,W,hm.trans h.ram,?_,?_,?_,h.jam⟩
 ·show (s.trace++r.2.log).length<=8*(k+1);rw[List.length_append];have:=h.many;omega
 ·show (s.starts++[s.trace.length]).length=k+1;rw[List.length_append,h.starts];rfl
 ·show (s.cpus++[s.cpu]).length=k+1;rw[List.length_append,h.cpus];rfl
theorem Under.begin (c:CpuN) (hc:c.ok) (L:List Nat) (E:List EvN):Under c L E 0 (hCA c L):=⟨rfl,hc,rfl,Nat.le_refl _,rfl,rfl,rfl⟩
theorem Under.jams {c:CpuN} {L:List Nat} {E:List EvN} {k:Nat} {s:ShotN} (h:Under c L E k s) (hu:unitN E k s={ s with jam:=true }) (n:Nat) (hn:k < n):wBA E n 0 (hCA c L)={ s with jam:=true }:=by
 obtain⟨m,rfl⟩:∃ m,n=(k+1)+m:=⟨n - (k+1),dQ⟩;have e:=kMA E k (hCA c L) (by rw[<-h.is];exact h.jam);rw[<-h.is,hu] at e;rw[rIA,e,sMA _ _ _ _ rfl]
theorem vBB {c:CpuN} {L:List Nat} (h:jamsN L c.PC=true):stepN c L=(c,⟨L,[]⟩):=by
 have hr:ramN L.length=true:=by unfold jamsN at h;rw[Bool.and_eq_true] at h;exact h.1
 unfold stepN;rw[if_pos hr,if_pos h]
theorem kIA {L M:List Nat} (h:ramN L.length=true) (e:M.length=L.length):ramN M.length=true:=by rw[e];exact h
theorem gFA (w:World) (N hi:Nat) (h:N<=hi):iBA w N hi (.slice none 0 0) (.slice none 0 0) (.slice none 0 0) (.slice none 0 0) ⟨cpu0,[],[],[],[],false⟩:=by
 have hk:∀ k,(Value.slice none 0 0).ownBlock=some k->k < N:=fun k ek=>tQa
 exact⟨N,N,N,N,N,N,N,N,⟨⟨fun i hi=>by simp at hi,World.ownsRow_nil w N _ _⟩,hk⟩,⟨World.ownsRow_nil w N _ _,hk⟩,⟨World.ownsRow_nil w N _ _,hk⟩,⟨World.ownsRow_nil w N _ _,hk⟩,dQ,dQ⟩
def kDA (N Z P K h1 Q h2 R h3 O h4:Nat):Prop:=
 (N<=K/\K<=h1/\h1<=Z)/\(N<=Q/\Q<=h2/\h2<=Z)/\(N<=R/\R<=h3/\h3<=Z)/\(N<=O/\O<=h4/\h4<=Z)/\(N<=P/\P < Z) /\
 (h1<=Q\/h2<=K)/\(h1<=R\/h3<=K)/\(h1<=O\/h4<=K)/\(h2<=R\/h3<=Q)/\(h2<=O\/h4<=Q)/\(h3<=O\/h4<=R) /\
 (h1<=P\/P+1<=K)/\(h2<=P\/P+1<=Q)/\(h3<=P\/P+1<=R)/\(h4<=P\/P+1<=O)

end Go.Proofs.YtckfdbjjjgfbfaaGreat
