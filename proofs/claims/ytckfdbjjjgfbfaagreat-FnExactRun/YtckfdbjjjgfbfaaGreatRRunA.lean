import Derived.Test.YtckfdbjjjgfbfaaGreatRPhr
import Derived.Test.YtckfdbjjjgfbfaaGreatRCells
import Derived.Test.YtckfdbjjjgfbfaaGreatRRowH
import Derived.Test.YtckfdbjjjgfbfaaGreatRRowG
import Derived.Deep.MidRow
import Derived.Test.YtckfdbjjjgfbfaaGreatRStepK
import Derived.Test.YtckfdbjjjgfbfaaGreatRCycRow
import Derived.Deep.AppendLies
set_option linter.unusedVariables false
set_option linter.unusedSimpArgs false
set_option maxRecDepth 100000
namespace Go.Proofs.YtckfdbjjjgfbfaaGreat
open Go.RowKit
structure ShotI where
 cpu:CpuN
 mem:List Nat
 trace:List CycN
 starts:List Int
 cpus:List CpuN
 jam:Bool
abbrev wAA (c:CpuN) (m t s p:Value) (j:Bool):Array Value:=(cQ c [m,t,s,p,.bool j]).toArray
abbrev shotV (c:CpuN) (m t s p:Value) (j:Bool):Value:=.agg (wAA c m t s p j)
def ShotI.small (s:ShotI):Prop:=s.mem.length<=1048576/\s.trace.length<=1048576/\s.starts.length<=1048576/\s.cpus.length<=1048576
structure mGA (w:World) (am ta sa pa:Option Addr) (s:ShotI):Prop where
 mem:RowB w am s.mem
 trace:RowG tFA w ta s.trace
 starts:RowG encI w sa s.starts
 cpus:RowG yAA w pa s.cpus
theorem mGA.below {w w':World} {am ta sa pa:Option Addr} {s:ShotI} (h:mGA w am ta sa pa s) (hb:Below w.heap.size w w'):mGA w' am ta sa pa s:=
 ⟨h.mem.below hb,h.trace.below hb,h.starts.below hb,h.cpus.below hb⟩
structure eIB (w:World) (lo hi l1 h1 l2 h2 l3 h3 l4 h4:Nat) (m t s p:Value) (x:ShotI):Prop where
 mem:SegB w l1 h1 m x.mem
 trace:SegC w l2 h2 t x.trace
 starts:SegG encI w l3 h3 s x.starts
 cpus:SegG yAA w l4 h4 p x.cpus
 within:(lo<=l1/\l1<=h1/\h1<=hi)/\(lo<=l2/\l2<=h2/\h2<=hi)/\(lo<=l3/\l3<=h3/\h3<=hi)/\(lo<=l4/\l4<=h4/\h4<=hi)
 apart:(h1<=l2\/h2<=l1)/\(h1<=l3\/h3<=l1)/\(h1<=l4\/h4<=l1)/\(h2<=l3\/h3<=l2)/\(h2<=l4\/h4<=l2)/\(h3<=l4\/h4<=l3)
def iBA (w:World) (lo hi:Nat) (m t s p:Value) (x:ShotI):Prop:=∃ l1 h1 l2 h2 l3 h3 l4 h4,eIB w lo hi l1 h1 l2 h2 l3 h3 l4 h4 m t s p x
theorem iBA.below {w w':World} {lo hi:Nat} {m t s p:Value} {x:ShotI} (h:iBA w lo hi m t s p x) (hb:Below w.heap.size w w'):iBA w' lo hi m t s p x:=by
 obtain⟨l1,h1,l2,h2,l3,h3,l4,h4,h⟩:=h;exact⟨l1,h1,l2,h2,l3,h3,l4,h4,h.mem.below hb,h.trace.below hb,h.starts.below hb,h.cpus.below hb,h.within,h.apart⟩
theorem iBA.drew {w:World} {lo hi:Nat} {m t s p:Value} {x:ShotI} (h:iBA w lo hi m t s p x):iBA w.drew lo hi m t s p x:=by
 obtain⟨l1,h1,l2,h2,l3,h3,l4,h4,h⟩:=h;exact⟨l1,h1,l2,h2,l3,h3,l4,h4,h.mem.drew,h.trace.drew,h.starts.drew,h.cpus.drew,h.within,h.apart⟩
theorem iBA.span {w w':World} {lo hi b2 a6:Nat} {m t s p:Value} {x:ShotI} (h:iBA w lo hi m t s p x) (hs:Span b2 a6 w w') (hd:hi<=b2\/a6<=lo):iBA w' lo hi m t s p x:=by
 obtain⟨l1,h1,l2,h2,l3,h3,l4,h4,h⟩:=h;have hw:=h.within;exact⟨l1,h1,l2,h2,l3,h3,l4,h4,h.mem.span hs dQ,h.trace.span hs dQ,h.starts.span hs dQ,h.cpus.span hs dQ,h.within,h.apart⟩
theorem SegC.len {w:World} {lo hi:Nat} {v:Value} {L:List CycN} (h:SegC w lo hi v L):∃ a cap,v=.slice a L.length cap/\L.length<=cap:=by
 rcases h.1.2 with ⟨rfl,hn⟩|⟨g,cap,b8,rfl,_,_,hc,_⟩
 ·exact⟨none,0,by rw[hn],dQ⟩
 ·exact⟨_,_,rfl,hc⟩
theorem iBA.len {w:World} {lo hi:Nat} {m t s p:Value} {x:ShotI} (h:iBA w lo hi m t s p x) :
  ∃ am cm ta ct sa cs pa cp,m=.slice am x.mem.length cm/\t=.slice ta x.trace.length ct/\s=.slice sa x.starts.length cs/\p=.slice pa x.cpus.length cp/\x.mem.length<=cm/\x.trace.length<=ct/\x.starts.length<=cs/\x.cpus.length<=cp:=by
 obtain⟨l1,h1,l2,h2,l3,h3,l4,h4,h⟩:=h;obtain⟨am,cm,e1,f1⟩:=h.mem.len;obtain⟨ta,ct,e2,f2⟩:=h.trace.len;obtain⟨sa,cs,e3,f3⟩:=h.starts.len;obtain⟨pa,cp,e4,f4⟩:=h.cpus.len;exact⟨am,cm,ta,ct,sa,cs,pa,cp,e1,e2,e3,e4,f1,f2,f3,f4⟩
theorem SegC.rowG {w:World} {lo hi:Nat} {a:Option Addr} {n cap:Nat} {L:List CycN} (h:SegC w lo hi (.slice a n cap) L):RowG tFA w a L:=(OwnG.row (e:=tFA) (show OwnG tFA w lo (.slice a n cap) L from h.1)).2
theorem iBA.rows {w:World} {lo hi:Nat} {am ta sa pa:Option Addr} {n1 n2 n3 n4 c1 c2 c3 c4:Nat} {x:ShotI} (h:iBA w lo hi (.slice am n1 c1) (.slice ta n2 c2) (.slice sa n3 c3) (.slice pa n4 c4) x):mGA w am ta sa pa x:=by
 obtain⟨l1,h1,l2,h2,l3,h3,l4,h4,h⟩:=h;exact⟨h.mem.row,h.trace.rowG,h.starts.row,h.cpus.row⟩
section
variable {P:Program} {T:Array Oper} {R:List Oper} {o:Oper} {a:Act} {w w':World} {Q:Exit->Act->World->Prop} {t:TypeId} {x y:Operand} {p v:Value}
theorem aMA (hr:(Instr.loadAt t p).run P w=.ok v w) (a3:o.guard=none) (a0:o.op=.load t x) (hx:a.eval x=p) (h:wpList P T Q R (a.put o.dst v) w):wpList P T Q (o :: R) a w:=
 wpList_plain a3 fun K hK=>by
  unfold Oper.wp execOp;simp only[a0,hx,Sem.run_bind,hr,Result.andThen_ok,Sem.run_pure,Oper.upon_value];exact hK _ _ h
theorem rLA (hr:(Instr.storeAt t p v).run P w=.ok () w') (a3:o.guard=none) (a0:o.op=.store t x y) (hx:a.eval x=p) (hy:a.eval y=v) (hd:o.dst=none) (h:wpList P T Q R a w'):wpList P T Q (o :: R) a w:=
 wpList_plain a3 fun K hK=>by
  unfold Oper.wp execOp;simp only[a0,hx,hy,Sem.run_bind,hr,Result.andThen_ok,Sem.run_pure,Oper.upon_skip,hd];exact hK _ _ h
theorem cAA (hr:(Instr.loadAt t p).run P w=.ok v w) (ho:o.guard=none/\∃ x,o.op=.load t x/\a.eval x=p) (h:wpList P T Q R (a.put o.dst v) w):wpList P T Q (o :: R) a w:=
 let ⟨hg,_,a0,hx⟩:=ho;aMA hr hg a0 hx h
theorem gAA (hr:(Instr.storeAt t p v).run P w=.ok () w') (ho:o.guard=none/\o.dst=none/\∃ x y,o.op=.store t x y/\a.eval x=p/\a.eval y=v) (h:wpList P T Q R a w'):wpList P T Q (o :: R) a w:=
 let ⟨hg,hd,_,_,a0,hx,hy⟩:=ho;rLA hr hg a0 hx hy hd h
end
theorem iAA {w:World} {B:Nat} {t ty:TypeId} {cs:Array Value} (h:BoxN w B t cs) (O:Nat) (vs:Array Value) (he:cs.extract O (O+vs.size)=vs) (U:((Tryz.prog.underlying ty).map (·.isRow))=some true) (hi:(Tryz.prog.info? ty).map (·.size)=some vs.size) :
  (Instr.loadAt ty (.pointer (some ⟨B,O,none⟩))).run Tryz.prog w=.ok (.agg vs) w:=by
 obtain⟨d,hd,hr⟩:=Option.map_eq_some_iff.1 U;have hc:=World.rangeAt_of_block (w:=w) h O vs.size;rw[he] at hc;have:=run_loadAt_mid (P:=Tryz.prog) w B O ty vs.toList d hc hd hr iQi;simpa using this
def setsV (cs:Array Value):Nat->List Value->Array Value
 | _,[]=>cs
 | o,v :: r=>setsV (cs.setIfInBounds o v) (o+1) r
theorem nJA {B:Nat} {t:TypeId}:∀ (V:List Value) (w:World) (cs:Array Value) (o:Nat),BoxN w B t cs->BoxN (w.setCells B o V) B t (setsV cs o V)
 | [],_,_,_,h=>h
 | v :: r,_,_,o,h=>nJA r _ _ (o+1) (h.set o v)
theorem oJA:∀ (V:List Value) (w:World) (B o:Nat),Span B (B+1) w (w.setCells B o V)
 | [],w,B,o=>Span.of_below _ _ (Below.refl _ _)
 | v :: r,w,B,o=>(Span.set w B o v).trans (oJA r _ B (o+1))
theorem kJA:∀ (V:List Value) (w:World) (B o:Nat),(w.setCells B o V).heap.size=w.heap.size
 | [],_,_,_=>rfl
 | v :: r,w,B,o=>(kJA r _ B (o+1)).trans xQ
theorem zAA {w:World} {B:Nat} {t ty:TypeId} {cs cs':Array Value} (h:BoxN w B t cs) (O:Nat) (vs:Array Value) (he:setsV cs O vs.toList=cs') (d2:O+vs.size<=cs.size) (hi:(Tryz.prog.info? ty).map (·.size)=some vs.size) (h1:vs.all (·.oneCell')=true) :
  ∃ w',(Instr.storeAt ty (.pointer (some ⟨B,O,none⟩)) (.agg vs)).run Tryz.prog w=.ok () w'/\BoxN w' B t cs'/\Span B (B+1) w w'/\w'.heap.size=w.heap.size:=by
 refine⟨w.setCells B O vs.toList,run_storeAt_mid w B O ty vs (fun j hj=>⟨?_,h.frozen _⟩) hi h1,he▸nJA vs.toList w cs O h,oJA _ _ _ _,kJA _ _ _ _⟩;have a8:O+j < cs.size:=dQ;rw[h.cell (O+j) cs[O+j] (Array.getElem?_eq_getElem a8)];rfl
theorem xBA {w:World} {B:Nat} {t ty:TypeId} {cs cs':Array Value} (h:BoxN w B t cs) (O:Nat) (v:Value) (he:cs.setIfInBounds O v=cs') (hr:(Instr.storeAt ty (.pointer (some ⟨B,O,none⟩)) v).run Tryz.prog w=.ok () (w.setCell ⟨B,O,none⟩ v)) :
  ∃ w',(Instr.storeAt ty (.pointer (some ⟨B,O,none⟩)) v).run Tryz.prog w=.ok () w'/\BoxN w' B t cs'/\Span B (B+1) w w'/\w'.heap.size=w.heap.size:=
 ⟨_,hr,he▸h.set O v,Span.set _ _ _ _,xQ⟩
theorem eDA {fn:Func} {p:Tmp} {ty:TypeId} (h:fn.results=#[.cell p ty]) {tmps:Array Value} {w:World} {B:Nat} {t:TypeId} {cs:Array Value} (hb:BoxN w B t cs) (hp:tmps.getD p undef=.pointer (some ⟨B,0,none⟩)) (U:((Tryz.prog.underlying ty).map (·.isRow))=some true) (hi:(Tryz.prog.info? ty).map (·.size)=some cs.size) :
  (results fn tmps).run Tryz.prog w=.ok (.agg cs) w:=by
 obtain⟨d,hd,hr⟩:=Option.map_eq_some_iff.1 U;exact results_cell_row h tmps w B t cs (0,0) d hp hb hd (by cases d<;>simp_all) hi
def put1 (M:List Nat) (x:CycN):List Nat:=if x.wr=true then M.set (x.addr % M.length) x.data else M
def shows (M:List Nat) (x:CycN):Bool:=(put1 M x).getD (x.addr % M.length) 0==x.data
def play (M:List Nat):List CycN->Option (List Nat)
 | []=>some M
 | x :: r=>bif shows M x then play (put1 M x) r else none
theorem pNA (M:List Nat) (x:CycN) (r:List CycN):play M (x :: r)=bif shows M x then play (put1 M x) r else none:=rfl
theorem cIA:∀ (A B:List CycN) (M M':List Nat),play M A=some M'->play M (A++B)=play M' B
 | [],B,M,M',h=>by
  simp only[play,Option.some.injEq] at h;rw[h,List.nil_append]
 | x :: r,B,M,M',h=>by
  rw[List.cons_append,pNA];rw[pNA] at h;cases hh:shows M x with
  | false=>rw[hh] at h;cases h
  | true=>
   rw[hh] at h;exact cIA r B _ M' h
theorem sLA {M:List Nat} {x:CycN} (h:shows M x=true):play M [x]=some (put1 M x):=by
 unfold play;rw[h];rfl
theorem wQA (b:BusN) (a:Nat):shows b.mem ⟨a % 65536,b.get a,false⟩=true:=by
 unfold shows put1;dsimp only;rw[if_neg iQ];exact beq_self_eq_true _
theorem nAB (b:BusN) (a d:Nat) (h:0 < b.mem.length):shows b.mem ⟨a % 65536,d,true⟩=true:=by
 have hp:a % 65536 % b.mem.length < b.mem.length:=Nat.mod_lt _ h;unfold shows put1;dsimp only;rw[if_pos rfl];simp[List.getD,hp]
structure Good (L:List Nat) (x:CycN) (n:Nat) (b:BusN):Prop where
 play:play L b.log=some b.mem
 len:b.mem.length=L.length
 pos:0 < L.length
 first:∃ r,b.log=x :: r
 many:n<=b.log.length
 adr:∀ y ∈ b.log,y.addr < 65536
theorem nPA {A:List CycN} {x:CycN} (h:∀ y ∈ A,y.addr < 65536) (hx:x.addr < 65536):∀ y ∈ A++[x],y.addr < 65536:=by
 intro y hy;rcases List.mem_append.1 hy with h1|h1
 ·exact h y h1
 ·rw[List.mem_singleton.1 h1];exact hx
theorem Good.less {L:List Nat} {x:CycN} {n m:Nat} {b:BusN} (h:Good L x n b) (hm:m<=n):Good L x m b:=⟨h.play,h.len,h.pos,h.first,Nat.le_trans hm h.many,h.adr⟩
theorem Good.rd {L:List Nat} {x:CycN} {n:Nat} {b:BusN} (h:Good L x n b) (a:Nat):Good L x (n+1) (b.rd a):=by
 refine⟨?_,h.len,h.pos,?_,?_,nPA h.adr (Nat.mod_lt _ iQ)⟩
 ·show Go.Proofs.YtckfdbjjjgfbfaaGreat.play L (b.log++[_])=some b.mem;rw[cIA _ _ _ _ h.play,sLA (wQA b a)];rfl
 ·obtain⟨r,hr⟩:=h.first;exact⟨r++[⟨a % 65536,b.get a,false⟩],by show b.log++[_]=_;rw[hr];rfl⟩
 ·have:=h.many;show n+1<=(b.log++[_]).length;rw[List.length_append];simp;exact this
theorem Good.put {L:List Nat} {x:CycN} {n:Nat} {b:BusN} (h:Good L x n b) (a d:Nat):Good L x (n+1) (b.put a d):=by
 refine⟨?_,?_,h.pos,?_,?_,nPA h.adr (Nat.mod_lt _ iQ)⟩
 ·show Go.Proofs.YtckfdbjjjgfbfaaGreat.play L (b.log++[_])=some (b.mem.set (b.spot a) d);rw[cIA _ _ _ _ h.play,sLA (nAB b a d (by rw[h.len];exact h.pos))];rfl
 ·show (b.mem.set _ _).length=_;rw[List.length_set,h.len]
 ·obtain⟨r,hr⟩:=h.first;exact⟨r++[⟨a % 65536,d,true⟩],by show b.log++[_]=_;rw[hr];rfl⟩
 ·have:=h.many;show n+1<=(b.log++[_]).length;rw[List.length_append];simp;exact this
theorem hUA {L:List Nat} {x:CycN} {n:Nat} {b:BusN} (h:Good L x n b) (c:CpuN) (m k:Int):Good L x (n+1) (kAA b c m k).2:=by
 unfold kAA baseN;dsimp only;repeat' split
 all_goals
  first
  | exact h.rd _
  | exact ((h.rd _).rd _).less dQ
  | exact (((h.rd _).rd _).rd _).less dQ
  | exact ((((h.rd _).rd _).rd _).rd _).less dQ
theorem cYA {L:List Nat} {x:CycN} {n:Nat} {b:BusN} (h:Good L x n b) (c:CpuN) (pc:Nat) (b9:Bool) (v:Nat):Good L x (n+5) (pushN b c pc b9 v).2:=by
 unfold pushN;exact ((((h.put _ _).put _ _).put _ _).rd _).rd _
theorem oRA {L:List Nat} {x:CycN} {n:Nat} {b:BusN} (h:Good L x n b) (c:CpuN) (l:List UInt8):Good L x (n+1) (gBA b c l).2:=by
 unfold gBA;dsimp only;repeat' split
 all_goals
  first
  | exact h.rd _
  | exact ((h.rd _).rd _).less dQ
  | exact (((h.rd _).rd _).rd _).less dQ
theorem oXA {L:List Nat} {x:CycN} {n:Nat} {b:BusN} (h:Good L x n b) (c:CpuN) (l:List UInt8):Good L x n (holdN b c l).2:=by
 unfold holdN;dsimp only;repeat' split
 all_goals
  first
  | exact (h.put _ _).less dQ
  | exact ((h.rd _).rd _).less dQ
theorem qFB {L:List Nat} {x:CycN} {n:Nat} {b:BusN} (h:Good L x n b) (c:CpuN) (l:List UInt8) (m:Int):Good L x (n+1) (goN b c l m).2:=by
 unfold goN;dsimp only;repeat' split
 all_goals
  first
  | exact ((h.rd _).rd _).less dQ
  | exact ((((h.rd _).rd _).rd _).rd _).less dQ
  | exact (((((h.rd _).rd _).put _ _).put _ _).rd _).less dQ
  | exact (((((h.rd _).rd _).rd _).rd _).rd _).less dQ
  | exact (cYA (h.rd _) _ _ _ _).less dQ
  | exact oXA (h.rd _) _ _
theorem tYA {L:List Nat} {x:CycN} {n:Nat} {b:BusN} (h:Good L x n b) (c:CpuN) (a5:Nat):Good L x (n+1) (dataN b c a5).2:=by
 have hp:=hUA h c (hAA a5) (eAA a5);unfold dataN;dsimp only;repeat' split
 all_goals
  first
  | exact h.rd _
  | exact (hp.rd _).less dQ
  | exact (hp.put _ _).less dQ
  | exact (((hp.rd _).put _ _).put _ _).less dQ
theorem zDB {L:List Nat} (hL:0 < L.length) (c:CpuN):Good L ⟨c.PC % 65536,(⟨L,[]⟩:BusN).get c.PC,false⟩ 2 (opN ⟨L,[]⟩ c).2:=by
 have h1:Good L ⟨c.PC % 65536,(⟨L,[]⟩:BusN).get c.PC,false⟩ 1 ((⟨L,[]⟩:BusN).rd c.PC):=by
  refine⟨?_,rfl,hL,⟨[],rfl⟩,Nat.le_refl _,fun y hy=>by rw[show y=⟨c.PC % 65536,_,false⟩ from List.mem_singleton.1 hy];exact Nat.mod_lt _ iQ⟩;exact sLA (wQA ⟨L,[]⟩ c.PC)
 unfold opN;dsimp only;repeat' split
 ·exact h1.rd _
 ·exact oRA h1 _ _
 ·exact tYA h1 _ _
 ·exact qFB h1 _ _ _
structure ShotN where
 cpu:CpuN
 mem:List Nat
 trace:List CycN
 starts:List Nat
 cpus:List CpuN
 jam:Bool
def kBA (E:List EvN) (k:Nat) (nmi:Bool):Bool:=E.any fun e=>e.at'==(k:Int) && e.nmi==nmi
def ShotN.on (s:ShotN) (r:CpuN×BusN):ShotN:=⟨r.1,r.2.mem,s.trace++r.2.log,s.starts++[s.trace.length],s.cpus++[s.cpu],s.jam⟩
def unitN (E:List EvN) (k:Nat) (s:ShotN):ShotN:=
 if kBA E k true=true then s.on (lBA s.cpu s.mem true)
 else if (kBA E k false && !s.cpu.I)=true then s.on (lBA s.cpu s.mem false)
 else if jamsN s.mem s.cpu.PC=true then { s with jam:=true }
 else s.on (stepN s.cpu s.mem)
def wBA (E:List EvN):Nat->Nat->ShotN->ShotN
 | 0,_,s=>s
 | n+1,k,s=>if s.jam=true then s else wBA E n (k+1) (unitN E k s)
def hCA (c:CpuN) (L:List Nat):ShotN:=⟨c,L,[],[],[],false⟩
def runN (c:CpuN) (L:List Nat) (E:List EvN) (n:Nat):ShotN:=wBA E n 0 (hCA c L)
theorem sMA (E:List EvN):∀ (n k:Nat) (s:ShotN),s.jam=true->wBA E n k s=s
 | 0,_,_,_=>rfl
 | n+1,k,s,h=>by unfold wBA;rw[if_pos h]
theorem pFA (E:List EvN) (n k:Nat) (s:ShotN):wBA E (n+1) k s=if s.jam=true then s else wBA E n (k+1) (unitN E k s):=rfl
theorem rIA (E:List EvN):∀ (m n k:Nat) (s:ShotN),wBA E (m+n) k s=wBA E n (k+m) (wBA E m k s)
 | 0,n,k,s=>by simp[wBA]
 | m+1,n,k,s=>by
  rw[show m+1+n=(m+n)+1 by omega,pFA,pFA];by_cases h:s.jam=true
  ·rw[if_pos h,if_pos h,sMA E n _ s h]
  ·rw[if_neg h,if_neg h,rIA E m n (k+1) (unitN E k s)];rw[show k+1+m=k+(m+1) by omega]
def ShotN.behind (s:ShotN) (t:List CycN) (a:List Nat) (p:List CpuN):ShotN:=⟨s.cpu,s.mem,t++s.trace,a++s.starts.map (t.length+·),p++s.cpus,s.jam⟩
section
variable {P:Program} {T:Array Oper} {R:List Oper} {o:Oper} {a:Act} {w w':World} {Q:Exit->Act->World->Prop} {t:TypeId} {x y:Operand} {p q v:Value}
theorem fBA (hr:∀ ty,(Builtin.append_ #[t,t] ty #[p,q]).run P w=.ok v w') (a3:o.guard=none) (ho:o.op=.call { callee:=.builtin .append,args:=#[x,y],argTypes:=#[t,t] }) (hx:a.eval x=p) (hy:a.eval y=q) (h:wpList P T Q R (a.put o.dst v) w'):wpList P T Q (o :: R) a w:=
 wpList_plain a3 fun K hK=>by
  unfold Oper.wp execOp;simp only[ho,resolve,invoke,builtin,Sem.run_bind,Sem.run_pure,Result.andThen_ok,List.map_toArray,List.map_cons,List.map_nil,hx,hy,hr];exact hK _ _ h
end
theorem aJA {α:Type} (e:Enc α) (z:α) (hm:0 < e.m) (ts:TypeId) (zv:Value) (bytes:Nat) (ht:Tryz.prog.underlying ts=some (.slice e.t)) (b1:(Tryz.prog.info? e.t).map (fun i=>(i.zero,i.size,i.bytes))=some (some zv,e.m,bytes)) (hz:zv.cells.size=e.m)
  {w:World} {lo hi:Nat} {v:Value} {L X:List α} (h:SegG e w lo hi v L) (a2:hi<=w.heap.size) (W:lo<=w.heap.size) (g o c:Nat) (hX:∀ j u,(X.flatMap e.cells)[j]?=some u->w.cell? ⟨g,o+j,none⟩=some u) (b4:∀ x:α,∀ u ∈ e.cells x,u.oneCell'=true) (h0:0 < X.length) (hsm:(L.length+X.length)*bytes<=140737488355328) (d1:L.length+X.length<=100000000) :
  ∃ J H w',(∀ ty,(Builtin.append_ #[ts,ts] ty #[v,.slice (some ⟨g,o,none⟩) X.length c]).run Tryz.prog w=.ok (.slice (some ⟨J,0,none⟩) (L.length+X.length) H) w')/\SegG e w' J (J+1) (.slice (some ⟨J,0,none⟩) (L.length+X.length) H) (L++X)/\Span lo hi w w'/\((lo<=J/\J < hi)\/J=w.heap.size)/\J < w'.heap.size:=by
 obtain⟨i0,hi0,hz0,hz1,b3⟩:=info_parts b1;have a4:∀ j u,(X.flatMap e.cells)[j]?=some u->w.cell? ((⟨g,o,none⟩:Addr).add j)=some u:=fun j u U=>by rw[Addr.add_mid];exact hX j u U
 have hl:=fFA e X;have h1:∀ u ∈ X.flatMap e.cells,u.oneCell'=true:=fun u U=>by
  obtain⟨x,_,hx⟩:=List.mem_flatMap.1 U;exact b4 x u hx
 have a7:L.length+X.length<=maxLen:=wQc;obtain⟨J,H,w',hr,b6,hg,a1,a8⟩:=run_append_lies (P:=Tryz.prog) w ts 0 lo e.t i0 zv e.m bytes ht hi0 hz0 hz1 b3 hz hm v L.length (L.flatMap e.cells) h.1 ⟨g,o,none⟩ X.length c (X.flatMap e.cells) hl a4 h1 h0 a7 hsm W w.heap.size rfl;have b7:∀ ty,(Builtin.append_ #[ts,ts] ty #[v,.slice (some ⟨g,o,none⟩) X.length c]).run Tryz.prog w=.ok (.slice (some ⟨J,0,none⟩) (L.length+X.length) H) w':=fun ty=>by
  obtain⟨g2,c8,w2,d3,c7,d6,d0,c9⟩:=run_append_lies (P:=Tryz.prog) w ts ty lo e.t i0 zv e.m bytes ht hi0 hz0 hz1 b3 hz hm v L.length (L.flatMap e.cells) h.1 ⟨g,o,none⟩ X.length c (X.flatMap e.cells) hl a4 h1 h0 a7 hsm W w.heap.size rfl;have e2:(Builtin.append_ #[ts,ts] ty #[v,.slice (some ⟨g,o,none⟩) X.length c]).run Tryz.prog w=(Builtin.append_ #[ts,ts] 0 #[v,.slice (some ⟨g,o,none⟩) X.length c]).run Tryz.prog w:=rfl;rw[e2,hr]
 have c0:(lo<=J/\J < hi)\/J=w.heap.size:=by
  rcases a1 with a1|a1
  ·exact .inl ⟨((World.ownsRow.lt h.1) J a1).1,h.2 J a1⟩
  ·exact .inr a1
 refine⟨J,H,w',b7,⟨?_,fun k ek=>pQd⟩,?_,c0,a8⟩
 ·refine OwnG.up (w:=w') (base:=lo) ?_ (fun k ek=>pQd);unfold OwnG;rw[List.length_append,List.flatMap_append];exact b6
 ·cases hv:v.ownBlock with
  | none=>rw[hv] at hg;exact⟨hg.os,hg.tape,hg.output,hg.size,fun i a6 _=>hg.block i a6 xQ⟩
  | some k=>
   rw[hv] at hg;have h1:=((World.ownsRow.lt h.1) k hv).1;have h2:=h.2 k hv;exact Span.of_grown hg h1 h2
theorem oneI:∀ x:Int,∀ u ∈ encI.cells x,u.oneCell'=true:=fun x u U=>by simp[encI] at U;subst U;rfl
theorem gIB:∀ x:CycN,∀ u ∈ tFA.cells x,u.oneCell'=true:=fun x u U=>by
 simp[tFA,xAA] at U;rcases U with rfl|rfl|rfl<;>rfl
theorem pJB:∀ x:CpuN,∀ u ∈ yAA.cells x,u.oneCell'=true:=fun x u U=>by
 simp[yAA,dNA] at U;rcases U with rfl|rfl|rfl|rfl|rfl|rfl|rfl|rfl|rfl|rfl|rfl<;>rfl
theorem zCB:(Tryz.prog.info? 3).map (fun i=>(i.zero,i.size,i.bytes))=some (some (.int .i64 0),1,8):=gQ
theorem cDB:(Tryz.prog.info? 28).map (fun i=>(i.zero,i.size,i.bytes))=some (some (.agg (dAA cpu0)),11,12):=gQ
theorem vEA {w:World} {lo hi:Nat} {v:Value} {L:List Int} (h:SegG encI w lo hi v L) (a2:hi<=w.heap.size) (W:lo<=w.heap.size) (x:Int) (g:Nat) (hg:BoxN w g 3 #[.int .i64 x]) (hsm:L.length<=1000000) (c:Nat) :
  ∃ J H w',(∀ ty,(Builtin.append_ #[35,35] ty #[v,.slice (some ⟨g,0,none⟩) 1 c]).run Tryz.prog w=.ok (.slice (some ⟨J,0,none⟩) (L.length+1) H) w')/\SegG encI w' J (J+1) (.slice (some ⟨J,0,none⟩) (L.length+1) H) (L++[x])/\Span lo hi w w'/\((lo<=J/\J < hi)\/J=w.heap.size)/\J < w'.heap.size:=
 aJA encI 0 iQ 35 (.int .i64 0) 8 Tryz.underlying35 zCB rfl h a2 W g 0 c (X:=[x]) (fun j u U=>by
  rw[Nat.zero_add];exact hg.cell j u (by simpa [encI] using U)) oneI xQ qQ qQ
theorem vFA {w:World} {lo hi:Nat} {v:Value} {L:List CpuN} (h:SegG yAA w lo hi v L) (a2:hi<=w.heap.size) (W:lo<=w.heap.size) (x:CpuN) (g:Nat) (hg:BoxN w g 28 (dAA x)) (hsm:L.length<=1000000) (c:Nat) :
  ∃ J H w',(∀ ty,(Builtin.append_ #[36,36] ty #[v,.slice (some ⟨g,0,none⟩) 1 c]).run Tryz.prog w=.ok (.slice (some ⟨J,0,none⟩) (L.length+1) H) w')/\SegG yAA w' J (J+1) (.slice (some ⟨J,0,none⟩) (L.length+1) H) (L++[x])/\Span lo hi w w'/\((lo<=J/\J < hi)\/J=w.heap.size)/\J < w'.heap.size:=
 aJA yAA cpu0 iQ 36 (.agg (dAA cpu0)) 12 Tryz.underlying36 cDB rfl h a2 W g 0 c (X:=[x]) (fun j u U=>by
  rw[Nat.zero_add];exact hg.cell j u (by simpa [yAA,dNA] using U)) pJB xQ qQ qQ
theorem cFA {w:World} {lo hi:Nat} {v:Value} {L X:List CycN} (h:SegC w lo hi v L) (a2:hi<=w.heap.size) (W:lo<=w.heap.size) {lx hx:Nat} {u:Value} (hX:SegC w lx hx u X) (h0:0 < X.length) (hsm:L.length<=1000000) (d4:X.length<=1000000) :
  ∃ J H w',(∀ ty,(Builtin.append_ #[34,34] ty #[v,u]).run Tryz.prog w=.ok (.slice (some ⟨J,0,none⟩) (L.length+X.length) H) w')/\SegC w' J (J+1) (.slice (some ⟨J,0,none⟩) (L.length+X.length) H) (L++X)/\Span lo hi w w'/\((lo<=J/\J < hi)\/J=w.heap.size)/\J < w'.heap.size:=by
 obtain⟨g,cap,rfl,ho⟩:∃ g cap,u=.slice (some ⟨g,0,none⟩) X.length cap/\OwnC w lx u X:=by
  have h1:=hX.1;rcases h1.2 with ⟨_,hn⟩|⟨g,cap,b8,hv,_⟩
  ·omega
  ·exact⟨g,cap,hv,h1⟩
 have h':SegG tFA w lo hi v L:=h;exact aJA tFA ⟨0,0,false⟩ iQ 34 (.agg #[.int .u16 0,.int .u8 0,.bool false]) 4 Tryz.underlying34 nIA rfl h' a2 W g 0 cap (X:=X) (fun j u U=>by
  rw[Nat.zero_add];have hj:j < (X.flatMap tFA.cells).length:=(List.getElem?_eq_some_iff.1 U).1;rw[fFA] at hj;exact (World.ownsRow.cellAt ho j hj).trans U) gIB h0 dQ dQ
theorem pJA (ax:Option Addr) (cap:Nat) (E:List EvN) (k:Nat) (nmi:Bool) (w:World) (hE:E.length<=1048576) (hk:k<=1048576) (hr:RowG encEv w ax E) :
  Calls Tryz.prog 41 #[.slice ax E.length cap,.int .i64 k,.bool nmi] w fun e w'=>e=.returned (.bool (kBA E k nmi))/\Below w.heap.size w w':=by
 obtain⟨r,b0⟩:∃ r,kBA E k nmi=r:=⟨_,rfl⟩;rw[b0];have HQ:=hQ b0;have HR:=hQ hr;clear b0 hr;go_enter Tryz.func41,Tryz.ntmps41;go_wp2;go_loop [7] (fun i=>∃ j:Nat,j<=E.length/\i=.int .i64 j/\Hid (∀ n (h:n < E.length),n < j->(E[n].at'==(k:Int) && E[n].nmi==nmi)=false)) (fun i=>E.length - (intOf i).toNat)
 case atStart=>exact⟨0,Nat.zero_le _,rfl,hQ (fun n _ h=>absurd h (Nat.not_lt_zero n))⟩
 case round=>
  obtain⟨j,hj,rfl,HN⟩:=hrel;by_cases hp:j < E.length
  ·obtain⟨g,o,rfl,_,p0,p1⟩:=wFA HR.out j hp;have ik:(0:Int)<=(j:Int)/\(j:Int) < (E.length:Int):=dQ;cases hb:(E[j].at'==(k:Int) && E[j].nmi==nmi) with
   | true=>
    have a9:r=true:=by
     rw[<-HQ.out];unfold kBA;exact List.any_eq_true.2 ⟨E[j],List.getElem_mem hp,hb⟩
    rw[Bool.and_eq_true] at hb;obtain⟨hb1,hb2⟩:=hb;subst a9;obtain⟨x,hx⟩:∃ x,E[j]=x:=⟨_,rfl⟩;rw[hx] at p0 p1 hb1 hb2;clear hx HN HQ;go_wp2;go_ret;exact⟨rfl,Below.refl _ _⟩
   | false=>
    have b5:Hid (∀ n (h:n < E.length),n < j+1->(E[n].at'==(k:Int) && E[n].nmi==nmi)=false):=hQ (fun n h hn=>by
     by_cases e:n=j
     ·subst e;exact hb
     ·exact HN.out n h dQ)
    obtain⟨x,hx⟩:∃ x,E[j]=x:=⟨_,rfl⟩;rw[hx] at p0 p1 hb;clear hx HN;cases hb1:(x.at'==(k:Int)) with
    | false=>
     clear hb;go_wp2;go_round
     case rel=>exact⟨j+1,dQ,bQe,b5⟩
     case measure=>simp[intOf];omega
    | true=>
     rw[hb1,Bool.true_and] at hb;go_wp2;go_round
     case rel=>exact⟨j+1,dQ,bQe,b5⟩
     case measure=>simp[intOf];omega
  ·obtain rfl:j=E.length:=dQ;have a9:r=false:=by
    rw[<-HQ.out];unfold kBA;rw[List.any_eq_false];intro x hx;obtain⟨n,hn,rfl⟩:=List.getElem_of_mem hx;have:=HN.out n hn hn;simpa using this
   subst a9;clear HN HQ;go_wp2;go_ret;exact⟨rfl,Below.refl _ _⟩

end Go.Proofs.YtckfdbjjjgfbfaaGreat
