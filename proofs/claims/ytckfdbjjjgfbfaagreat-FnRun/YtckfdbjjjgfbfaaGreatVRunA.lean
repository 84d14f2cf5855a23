import Derived.Test.YtckfdbjjjgfbfaaGreatVRegGuard
import Derived.ProofKit
import Derived.OpenShut
import Derived.Deep.Slices
import Derived.Deep.MidRow
set_option linter.unusedVariables false
set_option linter.unusedSimpArgs false
set_option maxRecDepth 100000
namespace Go.Proofs.YtckfdbjjjgfbfaaGreat
open Go.RowKit
structure Enc (α:Type) where
 t:TypeId
 m:Nat
 cells:α->List Value
 len:∀ a,(cells a).length=m
def OwnG {α:Type} (e:Enc α) (w:World) (base:Nat) (v:Value) (L:List α):Prop:=w.ownsRow base e.t e.m v L.length (L.flatMap e.cells)
def RowG {α:Type} (e:Enc α) (w:World) (a:Option Addr) (L:List α):Prop:=
 0 < L.length->∃ g o,a=some ⟨g,o,none⟩/\g < w.heap.size/\∀ i (h:i < L.length) k,k < e.m->w.cell? ⟨g,o+i*e.m+k,none⟩=(e.cells L[i])[k]?
theorem dJA {α:Type} (e:Enc α):∀ L:List α,(L.flatMap e.cells).length=L.length*e.m
 | []=>by simp
 | a :: r=>by rw[List.flatMap_cons,List.length_append,e.len,dJA e r,List.length_cons,Nat.succ_mul];omega
theorem gOA {α:Type} (e:Enc α):∀ (L:List α) (i:Nat) (h:i < L.length) (k:Nat),k < e.m->(L.flatMap e.cells)[i*e.m+k]?=(e.cells L[i])[k]?
 | [],i,h,_,_=>absurd h (Nat.not_lt_zero i)
 | a :: r,0,_,k,hk=>by
  rw[List.flatMap_cons,Nat.zero_mul,Nat.zero_add,List.getElem?_append_left (by rw[e.len];exact hk)];rfl
 | a :: r,i+1,h,k,hk=>by
  rw[List.flatMap_cons,List.getElem?_append_right (by rw[e.len,Nat.succ_mul];omega),e.len,show (i+1)*e.m+k - e.m=i*e.m+k by rw[Nat.succ_mul];omega];exact gOA e r i (by simpa using h) k hk
theorem OwnG.below {α:Type} {e:Enc α} {w w':World} {base:Nat} {v:Value} {L:List α} (h:OwnG e w base v L) (hb:Below w.heap.size w w'):OwnG e w' base v L:=by
 refine World.ownsRow.kept h (row:=none) ⟨hb.os,hb.tape,hb.output,hb.size,fun i hi _=>hb.block i hi⟩ ?_;cases v.ownBlock<;>simp
theorem OwnG.drewN {α:Type} {e:Enc α} {w:World} {base:Nat} {v:Value} {L:List α} (h:OwnG e w base v L) (k:Nat):OwnG e (w.drewN k) base v L:=h
theorem OwnG.up {α:Type} {e:Enc α} {w:World} {base n:Nat} {v:Value} {L:List α} (h:OwnG e w base v L) (hn:∀ g,v.ownBlock=some g->n<=g):OwnG e w n v L:=by
 obtain⟨h1,h2⟩:=h;refine⟨h1,?_⟩;rcases h2 with h2|⟨g,cap,a1,rfl,hb,R⟩
 ·exact .inl h2
 ·exact .inr ⟨g,cap,a1,rfl,hn g rfl,R⟩
theorem OwnG.len {α:Type} {e:Enc α} {w:World} {base:Nat} {v:Value} {L:List α} (h:OwnG e w base v L):∃ a cap,v=.slice a L.length cap/\L.length<=cap:=by
 rcases h.2 with ⟨rfl,hn⟩|⟨g,cap,a1,rfl,_,_,hc,_⟩
 ·exact⟨none,0,by rw[hn],dQ⟩
 ·exact⟨_,_,rfl,hc⟩
theorem OwnG.row {α:Type} {e:Enc α} {w:World} {base:Nat} {a:Option Addr} {n cap:Nat} {L:List α} (h:OwnG e w base (.slice a n cap) L):n=L.length/\RowG e w a L:=by
 have h':=h;obtain⟨_,h2⟩:=h;rcases h2 with ⟨h2,hn⟩|⟨g,H,a1,ev,hb,hh,d8,_⟩
 ·simp only[Value.slice.injEq] at h2;exact⟨dQ,fun h0=>dQ⟩
 ·simp only[Value.slice.injEq] at ev;obtain⟨rfl,rfl,rfl⟩:=ev;refine⟨rfl,fun _=>⟨g,0,rfl,(Array.getElem?_eq_some_iff.1 hh).1,fun i hi k hk=>?_⟩⟩;rw[Nat.zero_add];have a8:i*e.m+k < L.length*e.m:=by
   have:(i+1)*e.m<=L.length*e.m:=Nat.mul_le_mul_right _ hi;rw[Nat.succ_mul] at this;omega
  exact (World.ownsRow.cellAt h' _ a8).trans (gOA e L i hi k hk)
theorem RowG.below {α:Type} {e:Enc α} {w w':World} {a:Option Addr} {L:List α} (h:RowG e w a L) (hb:Below w.heap.size w w'):RowG e w' a L:=fun h0=>by
 obtain⟨g,o,rfl,U,hc⟩:=h h0;refine⟨g,o,rfl,Nat.lt_of_lt_of_le U hb.size,fun i hi k hk=>?_⟩;rw[<-hc i hi k hk];exact hb.cell (p:=⟨g,o+i*e.m+k,none⟩) U
theorem RowG.none {α:Type} (e:Enc α) (w:World) (a:Option Addr):RowG e w a []:=fun h=>absurd h (Nat.lt_irrefl 0)
theorem OwnG.none {α:Type} (e:Enc α) (w:World) (base:Nat):OwnG e w base (.slice .none 0 0) []:=World.ownsRow_nil w base e.t e.m
def SegG {α:Type} (e:Enc α) (w:World) (lo hi:Nat) (v:Value) (L:List α):Prop:=OwnG e w lo v L/\∀ k,v.ownBlock=some k->k < hi
theorem SegG.of {α:Type} {e:Enc α} {w:World} {lo:Nat} {v:Value} {L:List α} (h:OwnG e w lo v L):SegG e w lo w.heap.size v L:=⟨h,fun k ek=>((World.ownsRow.lt h) k ek).2⟩
theorem SegG.below {α:Type} {e:Enc α} {w w':World} {lo hi:Nat} {v:Value} {L:List α} (h:SegG e w lo hi v L) (hb:Below w.heap.size w w'):SegG e w' lo hi v L:=⟨h.1.below hb,h.2⟩
theorem SegG.drew {α:Type} {e:Enc α} {w:World} {lo hi:Nat} {v:Value} {L:List α} (h:SegG e w lo hi v L):SegG e w.drew lo hi v L:=h
theorem SegG.span {α:Type} {e:Enc α} {w w':World} {lo hi b0 a2:Nat} {v:Value} {L:List α} (h:SegG e w lo hi v L) (hs:Span b0 a2 w w') (hd:hi<=b0\/a2<=lo):SegG e w' lo hi v L:=by
 refine⟨?_,h.2⟩;obtain⟨h1,h2⟩:=h.1;refine⟨h1,?_⟩;rcases h2 with hn|⟨g,cap,a1,hv,hb,U,b4⟩
 ·exact .inl hn
 ·have d6:g < hi:=h.2 g (by rw[hv];rfl);exact .inr ⟨g,cap,a1,hv,hb,(hs.block g (Array.getElem?_eq_some_iff.1 U).1 dQ).trans U,b4⟩
theorem SegG.row {α:Type} {e:Enc α} {w:World} {lo hi:Nat} {a:Option Addr} {n cap:Nat} {L:List α} (h:SegG e w lo hi (.slice a n cap) L):RowG e w a L:=(OwnG.row h.1).2
theorem SegG.len {α:Type} {e:Enc α} {w:World} {lo hi:Nat} {v:Value} {L:List α} (h:SegG e w lo hi v L):∃ a cap,v=.slice a L.length cap/\L.length<=cap:=h.1.len
def encI:Enc Int:=⟨3,1,fun n=>[.int .i64 n],fun _=>rfl⟩
structure EvN where
 at':Int
 nmi:Bool
def ev0:EvN:=⟨0,false⟩
def cyc0:CycN:=⟨0,0,false⟩
def sLA (c:CpuN):List Value:=[.int .u8 (c.A:Int),.int .u8 (c.X:Int),.int .u8 (c.Y:Int),.int .u8 (c.S:Int),.int .u16 (c.PC:Int),.bool c.N,.bool c.V,.bool c.D,.bool c.I,.bool c.Z,.bool c.C]
def wEA:Enc CpuN:=⟨28,11,sLA,fun _=>rfl⟩
def sDA:Enc CycN:=⟨91,3,gBA,fun _=>rfl⟩
def encEv:Enc EvN:=⟨47,2,fun e=>[.int .i64 e.at',.bool e.nmi],fun _=>rfl⟩
theorem RowG.cyc {w:World} {a:Option Addr} {L:List CycN} (h:RowG sDA w a L):RowC w a L:=fun h0=>by
 obtain⟨g,o,rfl,U,hc⟩:=h h0;exact⟨g,o,rfl,U,fun i hi=>⟨hc i hi 0 iQ,hc i hi 1 iQ,hc i hi 2 iQ⟩⟩
theorem fKA {w:World} {a:Option Addr} {L:List EvN} (h:RowG encEv w a L) (i:Nat) (hi:i < L.length) :
  ∃ g o,a=some ⟨g,o,none⟩/\g < w.heap.size/\w.cell? ⟨g,o+i*2,none⟩=some (.int .i64 L[i].at')/\w.cell? ⟨g,o+i*2+1,none⟩=some (.bool L[i].nmi):=by
 obtain⟨g,o,rfl,U,hc⟩:=h dQ;exact⟨g,o,rfl,U,hc i hi 0 iQ,hc i hi 1 iQ⟩
theorem oUA:(Tryz.prog.info? 47).map (fun i=>(i.zero,i.size,i.bytes))=some (some (.agg #[.int .i64 0,.bool false]),2,16):=gQ
structure ShotI where
 cpu:CpuN
 mem:List Nat
 trace:List CycN
 starts:List Int
 cpus:List CpuN
 jam:Bool
abbrev lBA (c:CpuN) (m t s p:Value) (j:Bool):Array Value:=(cQ c [m,t,s,p,.bool j]).toArray
abbrev shotV (c:CpuN) (m t s p:Value) (j:Bool):Value:=.agg (lBA c m t s p j)
structure dIA (w:World) (am ta sa pa:Option Addr) (s:ShotI):Prop where
 mem:RowB w am s.mem
 trace:RowG sDA w ta s.trace
 starts:RowG encI w sa s.starts
 cpus:RowG wEA w pa s.cpus
theorem dIA.below {w w':World} {am ta sa pa:Option Addr} {s:ShotI} (h:dIA w am ta sa pa s) (hb:Below w.heap.size w w'):dIA w' am ta sa pa s:=
 ⟨h.mem.below hb,h.trace.below hb,h.starts.below hb,h.cpus.below hb⟩
structure wEB (w:World) (lo hi l1 h1 l2 h2 l3 h3 l4 h4:Nat) (m t s p:Value) (x:ShotI):Prop where
 mem:SegB w l1 h1 m x.mem
 trace:SegC w l2 h2 t x.trace
 starts:SegG encI w l3 h3 s x.starts
 cpus:SegG wEA w l4 h4 p x.cpus
 within:(lo<=l1/\l1<=h1/\h1<=hi)/\(lo<=l2/\l2<=h2/\h2<=hi)/\(lo<=l3/\l3<=h3/\h3<=hi)/\(lo<=l4/\l4<=h4/\h4<=hi)
 apart:(h1<=l2\/h2<=l1)/\(h1<=l3\/h3<=l1)/\(h1<=l4\/h4<=l1)/\(h2<=l3\/h3<=l2)/\(h2<=l4\/h4<=l2)/\(h3<=l4\/h4<=l3)
def fDA (w:World) (lo hi:Nat) (m t s p:Value) (x:ShotI):Prop:=∃ l1 h1 l2 h2 l3 h3 l4 h4,wEB w lo hi l1 h1 l2 h2 l3 h3 l4 h4 m t s p x
theorem fDA.below {w w':World} {lo hi:Nat} {m t s p:Value} {x:ShotI} (h:fDA w lo hi m t s p x) (hb:Below w.heap.size w w'):fDA w' lo hi m t s p x:=by
 obtain⟨l1,h1,l2,h2,l3,h3,l4,h4,h⟩:=h;exact⟨l1,h1,l2,h2,l3,h3,l4,h4,h.mem.below hb,h.trace.below hb,h.starts.below hb,h.cpus.below hb,h.within,h.apart⟩
theorem fDA.drew {w:World} {lo hi:Nat} {m t s p:Value} {x:ShotI} (h:fDA w lo hi m t s p x):fDA w.drew lo hi m t s p x:=by
 obtain⟨l1,h1,l2,h2,l3,h3,l4,h4,h⟩:=h;exact⟨l1,h1,l2,h2,l3,h3,l4,h4,h.mem.drew,h.trace.drew,h.starts.drew,h.cpus.drew,h.within,h.apart⟩
theorem fDA.span {w w':World} {lo hi b0 a2:Nat} {m t s p:Value} {x:ShotI} (h:fDA w lo hi m t s p x) (hs:Span b0 a2 w w') (hd:hi<=b0\/a2<=lo):fDA w' lo hi m t s p x:=by
 obtain⟨l1,h1,l2,h2,l3,h3,l4,h4,h⟩:=h;have hw:=h.within;exact⟨l1,h1,l2,h2,l3,h3,l4,h4,h.mem.span hs dQ,h.trace.span hs dQ,h.starts.span hs dQ,h.cpus.span hs dQ,h.within,h.apart⟩
theorem SegC.len {w:World} {lo hi:Nat} {v:Value} {L:List CycN} (h:SegC w lo hi v L):∃ a cap,v=.slice a L.length cap/\L.length<=cap:=by
 rcases h.1.2 with ⟨rfl,hn⟩|⟨g,cap,a1,rfl,_,_,hc,_⟩
 ·exact⟨none,0,by rw[hn],dQ⟩
 ·exact⟨_,_,rfl,hc⟩
theorem fDA.len {w:World} {lo hi:Nat} {m t s p:Value} {x:ShotI} (h:fDA w lo hi m t s p x) :
  ∃ am cm ta ct sa cs pa cp,m=.slice am x.mem.length cm/\t=.slice ta x.trace.length ct/\s=.slice sa x.starts.length cs/\p=.slice pa x.cpus.length cp/\x.mem.length<=cm/\x.trace.length<=ct/\x.starts.length<=cs/\x.cpus.length<=cp:=by
 obtain⟨l1,h1,l2,h2,l3,h3,l4,h4,h⟩:=h;obtain⟨am,cm,e1,f1⟩:=h.mem.len;obtain⟨ta,ct,e2,f2⟩:=h.trace.len;obtain⟨sa,cs,e3,f3⟩:=h.starts.len;obtain⟨pa,cp,e4,f4⟩:=h.cpus.len;exact⟨am,cm,ta,ct,sa,cs,pa,cp,e1,e2,e3,e4,f1,f2,f3,f4⟩
theorem SegC.rowG {w:World} {lo hi:Nat} {a:Option Addr} {n cap:Nat} {L:List CycN} (h:SegC w lo hi (.slice a n cap) L):RowG sDA w a L:=(OwnG.row (e:=sDA) (show OwnG sDA w lo (.slice a n cap) L from h.1)).2
theorem fDA.rows {w:World} {lo hi:Nat} {am ta sa pa:Option Addr} {n1 n2 n3 n4 c1 c2 c3 c4:Nat} {x:ShotI} (h:fDA w lo hi (.slice am n1 c1) (.slice ta n2 c2) (.slice sa n3 c3) (.slice pa n4 c4) x):dIA w am ta sa pa x:=by
 obtain⟨l1,h1,l2,h2,l3,h3,l4,h4,h⟩:=h;exact⟨h.mem.row,h.trace.rowG,h.starts.row,h.cpus.row⟩
section
variable {P:Program} {W:Array Oper} {R:List Oper} {o:Oper} {a:Act} {w w':World} {Q:Exit->Act->World->Prop} {t:TypeId} {x y:Operand} {p v:Value}
theorem nLA (hr:(Instr.loadAt t p).run P w=.ok v w) (a7:o.guard=none) (a3:o.op=.load t x) (hx:a.eval x=p) (h:wpList P W Q R (a.put o.dst v) w):wpList P W Q (o :: R) a w:=
 wpList_plain a7 fun K hK=>by
  unfold Oper.wp execOp;simp only[a3,hx,Sem.run_bind,hr,Result.andThen_ok,Sem.run_pure,Oper.upon_value];exact hK _ _ h
theorem tKA (hr:(Instr.storeAt t p v).run P w=.ok () w') (a7:o.guard=none) (a3:o.op=.store t x y) (hx:a.eval x=p) (hy:a.eval y=v) (hd:o.dst=none) (h:wpList P W Q R a w'):wpList P W Q (o :: R) a w:=
 wpList_plain a7 fun K hK=>by
  unfold Oper.wp execOp;simp only[a3,hx,hy,Sem.run_bind,hr,Result.andThen_ok,Sem.run_pure,Oper.upon_skip,hd];exact hK _ _ h
theorem cAA (hr:(Instr.loadAt t p).run P w=.ok v w) (ho:o.guard=none/\∃ x,o.op=.load t x/\a.eval x=p) (h:wpList P W Q R (a.put o.dst v) w):wpList P W Q (o :: R) a w:=
 let ⟨U,_,a3,hx⟩:=ho;nLA hr U a3 hx h
theorem hAA (hr:(Instr.storeAt t p v).run P w=.ok () w') (ho:o.guard=none/\o.dst=none/\∃ x y,o.op=.store t x y/\a.eval x=p/\a.eval y=v) (h:wpList P W Q R a w'):wpList P W Q (o :: R) a w:=
 let ⟨U,hd,_,_,a3,hx,hy⟩:=ho;tKA hr U a3 hx hy hd h
end
theorem jAA {w:World} {B:Nat} {t ty:TypeId} {cs:Array Value} (h:BoxN w B t cs) (O:Nat) (vs:Array Value) (he:cs.extract O (O+vs.size)=vs) (T:((Tryz.prog.underlying ty).map (·.isRow))=some true) (hi:(Tryz.prog.info? ty).map (·.size)=some vs.size) :
  (Instr.loadAt ty (.pointer (some ⟨B,O,none⟩))).run Tryz.prog w=.ok (.agg vs) w:=by
 obtain⟨d,hd,hr⟩:=Option.map_eq_some_iff.1 T;have hc:=World.rangeAt_of_block (w:=w) h O vs.size;rw[he] at hc;have:=run_loadAt_mid (P:=Tryz.prog) w B O ty vs.toList d hc hd hr (by simpa using hi);simpa using this
def setsV (cs:Array Value):Nat->List Value->Array Value
 | _,[]=>cs
 | o,v :: r=>setsV (cs.setIfInBounds o v) (o+1) r
theorem oIA {B:Nat} {t:TypeId}:∀ (V:List Value) (w:World) (cs:Array Value) (o:Nat),BoxN w B t cs->BoxN (w.setCells B o V) B t (setsV cs o V)
 | [],_,_,_,h=>h
 | v :: r,_,_,o,h=>oIA r _ _ (o+1) (h.set o v)
theorem tIA:∀ (V:List Value) (w:World) (B o:Nat),Span B (B+1) w (w.setCells B o V)
 | [],w,B,o=>Span.of_below _ _ (Below.refl _ _)
 | v :: r,w,B,o=>(Span.set w B o v).trans (tIA r _ B (o+1))
theorem sIA:∀ (V:List Value) (w:World) (B o:Nat),(w.setCells B o V).heap.size=w.heap.size
 | [],_,_,_=>rfl
 | v :: r,w,B,o=>(sIA r _ B (o+1)).trans yQ
theorem uAA {w:World} {B:Nat} {t ty:TypeId} {cs cs':Array Value} (h:BoxN w B t cs) (O:Nat) (vs:Array Value) (he:setsV cs O vs.toList=cs') (d7:O+vs.size<=cs.size) (hi:(Tryz.prog.info? ty).map (·.size)=some vs.size) (h1:vs.all (·.oneCell')=true) :
  ∃ w',(Instr.storeAt ty (.pointer (some ⟨B,O,none⟩)) (.agg vs)).run Tryz.prog w=.ok () w'/\BoxN w' B t cs'/\Span B (B+1) w w'/\w'.heap.size=w.heap.size:=by
 refine⟨w.setCells B O vs.toList,run_storeAt_mid w B O ty vs (fun j hj=>⟨?_,h.frozen _⟩) hi h1,he▸oIA vs.toList w cs O h,tIA _ _ _ _,sIA _ _ _ _⟩;have a8:O+j < cs.size:=dQ;rw[h.cell (O+j) cs[O+j] (Array.getElem?_eq_getElem a8)];rfl
theorem qBA {w:World} {B:Nat} {t ty:TypeId} {cs cs':Array Value} (h:BoxN w B t cs) (O:Nat) (v:Value) (he:cs.setIfInBounds O v=cs') (hr:(Instr.storeAt ty (.pointer (some ⟨B,O,none⟩)) v).run Tryz.prog w=.ok () (w.setCell ⟨B,O,none⟩ v)) :
  ∃ w',(Instr.storeAt ty (.pointer (some ⟨B,O,none⟩)) v).run Tryz.prog w=.ok () w'/\BoxN w' B t cs'/\Span B (B+1) w w'/\w'.heap.size=w.heap.size:=
 ⟨_,hr,he▸h.set O v,Span.set _ _ _ _,yQ⟩
theorem yCA {fn:Func} {p:Tmp} {ty:TypeId} (h:fn.results=#[.cell p ty]) {tmps:Array Value} {w:World} {B:Nat} {t:TypeId} {cs:Array Value} (hb:BoxN w B t cs) (hp:tmps.getD p undef=.pointer (some ⟨B,0,none⟩)) (T:((Tryz.prog.underlying ty).map (·.isRow))=some true) (hi:(Tryz.prog.info? ty).map (·.size)=some cs.size) :
  (results fn tmps).run Tryz.prog w=.ok (.agg cs) w:=by
 obtain⟨d,hd,hr⟩:=Option.map_eq_some_iff.1 T;exact results_cell_row h tmps w B t cs (0,0) d hp hb hd (by cases d<;>simp_all) hi
def put1 (M:List Nat) (x:CycN):List Nat:=if x.wr=true then M.set (x.addr % M.length) x.data else M
def shows (M:List Nat) (x:CycN):Bool:=(put1 M x).getD (x.addr % M.length) 0==x.data
def play (M:List Nat):List CycN->Option (List Nat)
 | []=>some M
 | x :: r=>bif shows M x then play (put1 M x) r else none
theorem lMA (M:List Nat) (x:CycN) (r:List CycN):play M (x :: r)=bif shows M x then play (put1 M x) r else none:=rfl
theorem tHA:∀ (A B:List CycN) (M M':List Nat),play M A=some M'->play M (A++B)=play M' B
 | [],B,M,M',h=>by
  simp only[play,Option.some.injEq] at h;rw[h,List.nil_append]
 | x :: r,B,M,M',h=>by
  rw[List.cons_append,lMA];rw[lMA] at h;cases hh:shows M x with
  | false=>rw[hh] at h;cases h
  | true=>
   rw[hh] at h;exact tHA r B _ M' h
theorem qKA {M:List Nat} {x:CycN} (h:shows M x=true):play M [x]=some (put1 M x):=by
 unfold play;rw[h];rfl
theorem qPA (b:BusN) (a:Nat):shows b.mem ⟨a % 65536,b.get a,false⟩=true:=by
 unfold shows put1;dsimp only;rw[if_neg iQ];exact beq_self_eq_true _
theorem oYA (b:BusN) (a d:Nat) (h:0 < b.mem.length):shows b.mem ⟨a % 65536,d,true⟩=true:=by
 have hp:a % 65536 % b.mem.length < b.mem.length:=Nat.mod_lt _ h;unfold shows put1;dsimp only;rw[if_pos rfl];simp[List.getD,hp]
structure Good (L:List Nat) (x:CycN) (n:Nat) (b:BusN):Prop where
 play:play L b.log=some b.mem
 len:b.mem.length=L.length
 pos:0 < L.length
 first:∃ r,b.log=x :: r
 many:n<=b.log.length
 adr:∀ y ∈ b.log,y.addr < 65536
theorem rNA {A:List CycN} {x:CycN} (h:∀ y ∈ A,y.addr < 65536) (hx:x.addr < 65536):∀ y ∈ A++[x],y.addr < 65536:=by
 intro y hy;rcases List.mem_append.1 hy with h1|h1
 ·exact h y h1
 ·rw[List.mem_singleton.1 h1];exact hx
theorem Good.less {L:List Nat} {x:CycN} {n m:Nat} {b:BusN} (h:Good L x n b) (hm:m<=n):Good L x m b:=⟨h.play,h.len,h.pos,h.first,Nat.le_trans hm h.many,h.adr⟩
theorem Good.rd {L:List Nat} {x:CycN} {n:Nat} {b:BusN} (h:Good L x n b) (a:Nat):Good L x (n+1) (b.rd a):=by
 refine⟨?_,h.len,h.pos,?_,?_,rNA h.adr (Nat.mod_lt _ iQ)⟩
 ·show Go.Proofs.YtckfdbjjjgfbfaaGreat.play L (b.log++[_])=some b.mem;rw[tHA _ _ _ _ h.play,qKA (qPA b a)];rfl
 ·obtain⟨r,hr⟩:=h.first;exact⟨r++[⟨a % 65536,b.get a,false⟩],by show b.log++[_]=_;rw[hr];rfl⟩
 ·have:=h.many;show n+1<=(b.log++[_]).length;rw[List.length_append];simp;exact this
theorem Good.put {L:List Nat} {x:CycN} {n:Nat} {b:BusN} (h:Good L x n b) (a d:Nat):Good L x (n+1) (b.put a d):=by
 refine⟨?_,?_,h.pos,?_,?_,rNA h.adr (Nat.mod_lt _ iQ)⟩
 ·show Go.Proofs.YtckfdbjjjgfbfaaGreat.play L (b.log++[_])=some (b.mem.set (b.spot a) d);rw[tHA _ _ _ _ h.play,qKA (oYA b a d (by rw[h.len];exact h.pos))];rfl
 ·show (b.mem.set _ _).length=_;rw[List.length_set,h.len]
 ·obtain⟨r,hr⟩:=h.first;exact⟨r++[⟨a % 65536,d,true⟩],by show b.log++[_]=_;rw[hr];rfl⟩
 ·have:=h.many;show n+1<=(b.log++[_]).length;rw[List.length_append];simp;exact this
theorem rRA {L:List Nat} {x:CycN} {n:Nat} {b:BusN} (h:Good L x n b) (c:CpuN) (m k:Int):Good L x (n+1) (kAA b c m k).2:=by
 unfold kAA baseN;dsimp only;repeat' split
 all_goals
  first
  | exact h.rd _
  | exact ((h.rd _).rd _).less dQ
  | exact (((h.rd _).rd _).rd _).less dQ
  | exact ((((h.rd _).rd _).rd _).rd _).less dQ
theorem gVA {L:List Nat} {x:CycN} {n:Nat} {b:BusN} (h:Good L x n b) (c:CpuN) (pc:Nat) (c0:Bool) (v:Nat):Good L x (n+5) (pushN b c pc c0 v).2:=by
 unfold pushN;exact ((((h.put _ _).put _ _).put _ _).rd _).rd _
theorem uNA {L:List Nat} {x:CycN} {n:Nat} {b:BusN} (h:Good L x n b) (c:CpuN) (l:List UInt8):Good L x (n+1) (fBA b c l).2:=by
 unfold fBA;dsimp only;repeat' split
 all_goals
  first
  | exact h.rd _
  | exact ((h.rd _).rd _).less dQ
  | exact (((h.rd _).rd _).rd _).less dQ
theorem kUA {L:List Nat} {x:CycN} {n:Nat} {b:BusN} (h:Good L x n b) (c:CpuN) (l:List UInt8):Good L x n (holdN b c l).2:=by
 unfold holdN;dsimp only;repeat' split
 all_goals
  first
  | exact (h.put _ _).less dQ
  | exact ((h.rd _).rd _).less dQ
theorem mAB {L:List Nat} {x:CycN} {n:Nat} {b:BusN} (h:Good L x n b) (c:CpuN) (l:List UInt8) (m:Int):Good L x (n+1) (goN b c l m).2:=by
 unfold goN;dsimp only;repeat' split
 all_goals
  first
  | exact ((h.rd _).rd _).less dQ
  | exact ((((h.rd _).rd _).rd _).rd _).less dQ
  | exact (((((h.rd _).rd _).put _ _).put _ _).rd _).less dQ
  | exact (((((h.rd _).rd _).rd _).rd _).rd _).less dQ
  | exact (gVA (h.rd _) _ _ _ _).less dQ
  | exact kUA (h.rd _) _ _
theorem cUA {L:List Nat} {x:CycN} {n:Nat} {b:BusN} (h:Good L x n b) (c:CpuN) (a6:Nat):Good L x (n+1) (dataN b c a6).2:=by
 have hp:=rRA h c (iAA a6) (eAA a6);unfold dataN;dsimp only;repeat' split
 all_goals
  first
  | exact h.rd _
  | exact (hp.rd _).less dQ
  | exact (hp.put _ _).less dQ
  | exact (((hp.rd _).put _ _).put _ _).less dQ
theorem lBB {L:List Nat} (hL:0 < L.length) (c:CpuN):Good L ⟨c.PC % 65536,(⟨L,[]⟩:BusN).get c.PC,false⟩ 2 (opN ⟨L,[]⟩ c).2:=by
 have h1:Good L ⟨c.PC % 65536,(⟨L,[]⟩:BusN).get c.PC,false⟩ 1 ((⟨L,[]⟩:BusN).rd c.PC):=by
  refine⟨?_,rfl,hL,⟨[],rfl⟩,Nat.le_refl _,fun y hy=>by rw[show y=⟨c.PC % 65536,_,false⟩ from List.mem_singleton.1 hy];exact Nat.mod_lt _ iQ⟩;exact qKA (qPA ⟨L,[]⟩ c.PC)
 unfold opN;dsimp only;repeat' split
 ·exact h1.rd _
 ·exact uNA h1 _ _
 ·exact cUA h1 _ _
 ·exact mAB h1 _ _ _
structure ShotN where
 cpu:CpuN
 mem:List Nat
 trace:List CycN
 starts:List Nat
 cpus:List CpuN
 jam:Bool
def mBA (E:List EvN) (k:Nat) (nmi:Bool):Bool:=E.any fun e=>e.at'==(k:Int) && e.nmi==nmi
def ShotN.on (s:ShotN) (r:CpuN×BusN):ShotN:=⟨r.1,r.2.mem,s.trace++r.2.log,s.starts++[s.trace.length],s.cpus++[s.cpu],s.jam⟩
def unitN (E:List EvN) (k:Nat) (s:ShotN):ShotN:=
 if mBA E k true=true then s.on (jBA s.cpu s.mem true)
 else if (mBA E k false && !s.cpu.I)=true then s.on (jBA s.cpu s.mem false)
 else if jamsN s.mem s.cpu.PC=true then { s with jam:=true }
 else s.on (stepN s.cpu s.mem)
def hBA (E:List EvN):Nat->Nat->ShotN->ShotN
 | 0,_,s=>s
 | n+1,k,s=>if s.jam=true then s else hBA E n (k+1) (unitN E k s)
def tBA (c:CpuN) (L:List Nat):ShotN:=⟨c,L,[],[],[],false⟩
def runN (c:CpuN) (L:List Nat) (E:List EvN) (n:Nat):ShotN:=hBA E n 0 (tBA c L)
theorem iGA (E:List EvN):∀ (n k:Nat) (s:ShotN),s.jam=true->hBA E n k s=s
 | 0,_,_,_=>rfl
 | n+1,k,s,h=>by unfold hBA;rw[if_pos h]
theorem oFA (E:List EvN) (n k:Nat) (s:ShotN):hBA E (n+1) k s=if s.jam=true then s else hBA E n (k+1) (unitN E k s):=rfl
theorem uGA (E:List EvN):∀ (m n k:Nat) (s:ShotN),hBA E (m+n) k s=hBA E n (k+m) (hBA E m k s)
 | 0,n,k,s=>by simp[hBA]
 | m+1,n,k,s=>by
  rw[show m+1+n=(m+n)+1 by omega,oFA,oFA];by_cases h:s.jam=true
  ·rw[if_pos h,if_pos h,iGA E n _ s h]
  ·rw[if_neg h,if_neg h,uGA E m n (k+1) (unitN E k s)];rw[show k+1+m=k+(m+1) by omega]
def ShotN.behind (s:ShotN) (t:List CycN) (a:List Nat) (p:List CpuN):ShotN:=⟨s.cpu,s.mem,t++s.trace,a++s.starts.map (t.length+·),p++s.cpus,s.jam⟩
theorem kJA (s:ShotN) (r:CpuN×BusN) (t:List CycN) (a:List Nat) (p:List CpuN):(s.behind t a p).on r=(s.on r).behind t a p:=by
 unfold ShotN.on ShotN.behind;simp
theorem zPA (E:List EvN) (k:Nat) (s:ShotN) (t:List CycN) (a:List Nat) (p:List CpuN):unitN E k (s.behind t a p)=(unitN E k s).behind t a p:=by
 unfold unitN;have e1:(s.behind t a p).cpu=s.cpu:=rfl;have e2:(s.behind t a p).mem=s.mem:=rfl;rw[e1,e2];split
 ·exact kJA _ _ _ _ _
 ·split
  ·exact kJA _ _ _ _ _
  ·split
   ·rfl
   ·exact kJA _ _ _ _ _
theorem wIA (E:List EvN) (t:List CycN) (a:List Nat) (p:List CpuN):∀ (n k:Nat) (s:ShotN),hBA E n k (s.behind t a p)=(hBA E n k s).behind t a p
 | 0,_,_=>rfl
 | n+1,k,s=>by
  unfold hBA;have e:(s.behind t a p).jam=s.jam:=rfl;rw[e];split
  ·rfl
  ·rw[zPA,wIA E t a p n]
theorem sWA (k j:Nat) (s:ShotN):unitN [] k s=unitN [] j s:=rfl
theorem jKA:∀ (n k j:Nat) (s:ShotN),hBA [] n k s=hBA [] n j s
 | 0,_,_,_=>rfl
 | n+1,k,j,s=>by
  unfold hBA;rw[sWA k j,jKA n (k+1) (j+1)]
theorem xYA {k:Nat} {s:ShotN} (h0:s.jam=false) (h:(unitN [] k s).jam=true):unitN [] k s={ s with jam:=true }/\jamsN s.mem s.cpu.PC=true:=by
 have e:unitN [] k s=if jamsN s.mem s.cpu.PC=true then { s with jam:=true } else s.on (stepN s.cpu s.mem):=rfl
 rw[e] at h ⊢;split at h
 ·rename_i hj;rw[if_pos hj];exact⟨rfl,hj⟩
 ·have:(s.on (stepN s.cpu s.mem)).jam=s.jam:=rfl;rw[this,h0] at h;cases h
theorem iKA:∀ (n k:Nat) (s:ShotN),s.jam=false->(hBA [] n k s).jam=true->jamsN (hBA [] n k s).mem (hBA [] n k s).cpu.PC=true
 | 0,_,s,h0,h=>by unfold hBA at h;rw[h0] at h;cases h
 | n+1,k,s,h0,h=>by
  unfold hBA at h ⊢;rw[if_neg (by rw[h0];exact Bool.false_ne_true)] at h ⊢;cases T:(unitN [] k s).jam with
  | true=>
   obtain⟨e,hj⟩:=xYA h0 T;rw[iGA _ _ _ _ T,e];exact hj
  | false=>exact iKA n (k+1) _ T h
theorem lGB (c:CpuN) (L:List Nat) (k m:Nat) (hm:0 < m) :
  let f:=runN c L [] k;let g:=runN f.cpu f.mem [] m
  (runN c L [] (k+m)).cpu=g.cpu/\(runN c L [] (k+m)).mem=g.mem/\(runN c L [] (k+m)).trace=f.trace++g.trace/\(runN c L [] (k+m)).jam=g.jam:=by
 intro f g;have e:runN c L [] (k+m)=hBA [] m (0+k) f:=uGA [] k m 0 (tBA c L);rw[e];cases hf:f.jam with
 | false=>
  have key:∀ q:ShotN,q.jam=false->hBA [] m (0+k) q=(hBA [] m 0 (tBA q.cpu q.mem)).behind q.trace q.starts q.cpus:=by
   intro q hq;have eq:q=(tBA q.cpu q.mem).behind q.trace q.starts q.cpus:=by
    obtain⟨_,_,_,_,_,j⟩:=q;dsimp only at hq;subst hq;simp[ShotN.behind,tBA]
   have h:=wIA [] q.trace q.starts q.cpus m (0+k) (tBA q.cpu q.mem);rw[<-eq,jKA m (0+k) 0 (tBA q.cpu q.mem)] at h;exact h
  have eg:hBA [] m (0+k) f=g.behind f.trace f.starts f.cpus:=key f hf;rw[eg];exact⟨rfl,rfl,rfl,rfl⟩
 | true=>
  have hj:jamsN f.mem f.cpu.PC=true:=iKA k 0 (tBA c L) rfl hf;rw[iGA _ _ _ _ hf];obtain⟨m',rfl⟩:∃ m',m=m'+1:=⟨m - 1,dQ⟩;have eg:g={ tBA f.cpu f.mem with jam:=true }:=by
   show hBA [] (m'+1) 0 (tBA f.cpu f.mem)=_;unfold hBA;rw[if_neg (by exact Bool.false_ne_true)];have eu:unitN [] 0 (tBA f.cpu f.mem)={ tBA f.cpu f.mem with jam:=true }:=by
    have e1:unitN [] 0 (tBA f.cpu f.mem)=if jamsN f.mem f.cpu.PC=true then { tBA f.cpu f.mem with jam:=true } else (tBA f.cpu f.mem).on (stepN f.cpu f.mem):=rfl
    rw[e1,if_pos hj]
   rw[eu,iGA _ _ _ _ rfl]
  rw[eg];exact⟨rfl,rfl,by show f.trace=f.trace++[];rw[List.append_nil],hf⟩
section
variable {P:Program} {W:Array Oper} {R:List Oper} {o:Oper} {a:Act} {w w':World} {Q:Exit->Act->World->Prop} {t:TypeId} {x y:Operand} {p q v:Value}
theorem yAA (hr:∀ ty,(Builtin.append_ #[t,t] ty #[p,q]).run P w=.ok v w') (a7:o.guard=none) (ho:o.op=.call { callee:=.builtin .append,args:=#[x,y],argTypes:=#[t,t] }) (hx:a.eval x=p) (hy:a.eval y=q) (h:wpList P W Q R (a.put o.dst v) w'):wpList P W Q (o :: R) a w:=
 wpList_plain a7 fun K hK=>by
  unfold Oper.wp execOp;simp only[ho,resolve,invoke,builtin,Sem.run_bind,Sem.run_pure,Result.andThen_ok,List.map_toArray,List.map_cons,List.map_nil,hx,hy,hr];exact hK _ _ h
end
theorem fGA {α:Type} (e:Enc α) (z:α) (hm:0 < e.m) (ts:TypeId) (zv:Value) (bytes:Nat) (ht:Tryz.prog.underlying ts=some (.slice e.t)) (b2:(Tryz.prog.info? e.t).map (fun i=>(i.zero,i.size,i.bytes))=some (some zv,e.m,bytes)) (hz:zv.cells.size=e.m)
  {w:World} {lo hi:Nat} {v:Value} {L X:List α} (h:SegG e w lo hi v L) (a5:hi<=w.heap.size) (a0:lo<=w.heap.size) (g o c:Nat) (hX:∀ j u,(X.flatMap e.cells)[j]?=some u->w.cell? ⟨g,o+j,none⟩=some u) (b7:∀ x:α,∀ u ∈ e.cells x,u.oneCell'=true) (h0:0 < X.length) (hsm:(L.length+X.length)*bytes<=140737488355328) (d3:L.length+X.length<=100000000) :
  ∃ J H w',(∀ ty,(Builtin.append_ #[ts,ts] ty #[v,.slice (some ⟨g,o,none⟩) X.length c]).run Tryz.prog w=.ok (.slice (some ⟨J,0,none⟩) (L.length+X.length) H) w')/\SegG e w' J (J+1) (.slice (some ⟨J,0,none⟩) (L.length+X.length) H) (L++X)/\Span lo hi w w'/\((lo<=J/\J < hi)\/J=w.heap.size)/\J < w'.heap.size:=by
 obtain⟨i0,hi0,hz0,hz1,b9⟩:=info_parts b2;have a9:∀ j u,(X.flatMap e.cells)[j]?=some u->w.cell? ((⟨g,o,none⟩:Addr).add j)=some u:=fun j u T=>by rw[Addr.add_mid];exact hX j u T
 have hl:=dJA e X;have h1:∀ u ∈ X.flatMap e.cells,u.oneCell'=true:=fun u T=>by
  obtain⟨x,_,hx⟩:=List.mem_flatMap.1 T;exact b7 x u hx
 have b1:L.length+X.length<=maxLen:=nQe;obtain⟨J,H,w',hr,b8,U,a4,a8⟩:=run_append_lies (P:=Tryz.prog) w ts 0 lo e.t i0 zv e.m bytes ht hi0 hz0 hz1 b9 hz hm v L.length (L.flatMap e.cells) h.1 ⟨g,o,none⟩ X.length c (X.flatMap e.cells) hl a9 h1 h0 b1 hsm a0 w.heap.size rfl;have c9:∀ ty,(Builtin.append_ #[ts,ts] ty #[v,.slice (some ⟨g,o,none⟩) X.length c]).run Tryz.prog w=.ok (.slice (some ⟨J,0,none⟩) (L.length+X.length) H) w':=fun ty=>by
  obtain⟨g2,d0,w2,d9,c8,d4,d1,d2⟩:=run_append_lies (P:=Tryz.prog) w ts ty lo e.t i0 zv e.m bytes ht hi0 hz0 hz1 b9 hz hm v L.length (L.flatMap e.cells) h.1 ⟨g,o,none⟩ X.length c (X.flatMap e.cells) hl a9 h1 h0 b1 hsm a0 w.heap.size rfl;have e2:(Builtin.append_ #[ts,ts] ty #[v,.slice (some ⟨g,o,none⟩) X.length c]).run Tryz.prog w=(Builtin.append_ #[ts,ts] 0 #[v,.slice (some ⟨g,o,none⟩) X.length c]).run Tryz.prog w:=rfl;rw[e2,hr]
 have c7:(lo<=J/\J < hi)\/J=w.heap.size:=by
  rcases a4 with a4|a4
  ·exact .inl ⟨((World.ownsRow.lt h.1) J a4).1,h.2 J a4⟩
  ·exact .inr a4
 refine⟨J,H,w',c9,⟨?_,fun k ek=>lQc⟩,?_,c7,a8⟩
 ·refine OwnG.up (w:=w') (base:=lo) ?_ (fun k ek=>lQc);unfold OwnG;rw[List.length_append,List.flatMap_append];exact b8
 ·cases hv:v.ownBlock with
  | none=>rw[hv] at U;exact⟨U.os,U.tape,U.output,U.size,fun i a2 _=>U.block i a2 yQ⟩
  | some k=>
   rw[hv] at U;have h1:=((World.ownsRow.lt h.1) k hv).1;have h2:=h.2 k hv;exact Span.of_grown U h1 h2
theorem oneI:∀ x:Int,∀ u ∈ encI.cells x,u.oneCell'=true:=fun x u T=>by simp[encI] at T;subst T;rfl
theorem bGB:∀ x:CycN,∀ u ∈ sDA.cells x,u.oneCell'=true:=fun x u T=>by
 simp[sDA,gBA] at T;rcases T with rfl|rfl|rfl<;>rfl
theorem aGB:∀ x:CpuN,∀ u ∈ wEA.cells x,u.oneCell'=true:=fun x u T=>by
 simp[wEA,sLA] at T;rcases T with rfl|rfl|rfl|rfl|rfl|rfl|rfl|rfl|rfl|rfl|rfl<;>rfl
theorem bBB:(Tryz.prog.info? 3).map (fun i=>(i.zero,i.size,i.bytes))=some (some (.int .i64 0),1,8):=gQ
theorem aBB:(Tryz.prog.info? 28).map (fun i=>(i.zero,i.size,i.bytes))=some (some (.agg (dAA cpu0)),11,12):=gQ
theorem qEA {w:World} {lo hi:Nat} {v:Value} {L:List Int} (h:SegG encI w lo hi v L) (a5:hi<=w.heap.size) (a0:lo<=w.heap.size) (x:Int) (g:Nat) (U:BoxN w g 3 #[.int .i64 x]) (hsm:L.length<=1000000) (c:Nat) :
  ∃ J H w',(∀ ty,(Builtin.append_ #[35,35] ty #[v,.slice (some ⟨g,0,none⟩) 1 c]).run Tryz.prog w=.ok (.slice (some ⟨J,0,none⟩) (L.length+1) H) w')/\SegG encI w' J (J+1) (.slice (some ⟨J,0,none⟩) (L.length+1) H) (L++[x])/\Span lo hi w w'/\((lo<=J/\J < hi)\/J=w.heap.size)/\J < w'.heap.size:=
 fGA encI 0 iQ 35 (.int .i64 0) 8 Tryz.underlying35 bBB rfl h a5 a0 g 0 c (X:=[x]) (fun j u T=>by
  rw[Nat.zero_add];exact U.cell j u (by simpa [encI] using T)) oneI yQ qQ qQ
theorem jFA {w:World} {lo hi:Nat} {v:Value} {L:List CpuN} (h:SegG wEA w lo hi v L) (a5:hi<=w.heap.size) (a0:lo<=w.heap.size) (x:CpuN) (g:Nat) (U:BoxN w g 28 (dAA x)) (hsm:L.length<=1000000) (c:Nat) :
  ∃ J H w',(∀ ty,(Builtin.append_ #[36,36] ty #[v,.slice (some ⟨g,0,none⟩) 1 c]).run Tryz.prog w=.ok (.slice (some ⟨J,0,none⟩) (L.length+1) H) w')/\SegG wEA w' J (J+1) (.slice (some ⟨J,0,none⟩) (L.length+1) H) (L++[x])/\Span lo hi w w'/\((lo<=J/\J < hi)\/J=w.heap.size)/\J < w'.heap.size:=
 fGA wEA cpu0 iQ 36 (.agg (dAA cpu0)) 12 Tryz.underlying36 aBB rfl h a5 a0 g 0 c (X:=[x]) (fun j u T=>by
  rw[Nat.zero_add];exact U.cell j u (by simpa [wEA,sLA] using T)) aGB yQ qQ qQ
theorem cEA {w:World} {lo hi:Nat} {v:Value} {L X:List CycN} (h:SegC w lo hi v L) (a5:hi<=w.heap.size) (a0:lo<=w.heap.size) {lx hx:Nat} {u:Value} (hX:SegC w lx hx u X) (h0:0 < X.length) (hsm:L.length<=1000000) (e0:X.length<=1000000) :
  ∃ J H w',(∀ ty,(Builtin.append_ #[34,34] ty #[v,u]).run Tryz.prog w=.ok (.slice (some ⟨J,0,none⟩) (L.length+X.length) H) w')/\SegC w' J (J+1) (.slice (some ⟨J,0,none⟩) (L.length+X.length) H) (L++X)/\Span lo hi w w'/\((lo<=J/\J < hi)\/J=w.heap.size)/\J < w'.heap.size:=by
 obtain⟨g,cap,rfl,ho⟩:∃ g cap,u=.slice (some ⟨g,0,none⟩) X.length cap/\OwnC w lx u X:=by
  have h1:=hX.1;rcases h1.2 with ⟨_,hn⟩|⟨g,cap,a1,hv,_⟩
  ·omega
  ·exact⟨g,cap,hv,h1⟩
 have h':SegG sDA w lo hi v L:=h;exact fGA sDA ⟨0,0,false⟩ iQ 34 (.agg #[.int .u16 0,.int .u8 0,.bool false]) 4 Tryz.underlying34 yGA rfl h' a5 a0 g 0 cap (X:=X) (fun j u T=>by
  rw[Nat.zero_add];have hj:j < (X.flatMap sDA.cells).length:=(List.getElem?_eq_some_iff.1 T).1;rw[dJA] at hj;exact (World.ownsRow.cellAt ho j hj).trans T) bGB h0 dQ dQ
theorem uIA (ax:Option Addr) (cap:Nat) (E:List EvN) (k:Nat) (nmi:Bool) (w:World) (hE:E.length<=1048576) (hk:k<=1048576) (hr:RowG encEv w ax E) :
  Calls Tryz.prog 41 #[.slice ax E.length cap,.int .i64 k,.bool nmi] w fun e w'=>e=.returned (.bool (mBA E k nmi))/\Below w.heap.size w w':=by
 obtain⟨r,b5⟩:∃ r,mBA E k nmi=r:=⟨_,rfl⟩;rw[b5];have HQ:=j_ b5;have HR:=j_ hr;clear b5 hr;go_enter Tryz.func41,Tryz.ntmps41;go_wp2;go_loop [7] (fun i=>∃ j:Nat,j<=E.length/\i=.int .i64 j/\Hid (∀ n (h:n < E.length),n < j->(E[n].at'==(k:Int) && E[n].nmi==nmi)=false)) (fun i=>E.length - (intOf i).toNat)
 case atStart=>exact⟨0,Nat.zero_le _,rfl,j_ (fun n _ h=>absurd h (Nat.not_lt_zero n))⟩
 case round=>
  obtain⟨j,hj,rfl,HN⟩:=hrel;by_cases hp:j < E.length
  ·obtain⟨g,o,rfl,_,p0,p1⟩:=fKA HR.out j hp;have ik:(0:Int)<=(j:Int)/\(j:Int) < (E.length:Int):=dQ;cases hb:(E[j].at'==(k:Int) && E[j].nmi==nmi) with
   | true=>
    have b3:r=true:=by
     rw[<-HQ.out];unfold mBA;exact List.any_eq_true.2 ⟨E[j],List.getElem_mem hp,hb⟩
    rw[Bool.and_eq_true] at hb;obtain⟨hb1,hb2⟩:=hb;subst b3;obtain⟨x,hx⟩:∃ x,E[j]=x:=⟨_,rfl⟩;rw[hx] at p0 p1 hb1 hb2;clear hx HN HQ;go_wp2;go_ret;exact⟨rfl,Below.refl _ _⟩
   | false=>
    have b6:Hid (∀ n (h:n < E.length),n < j+1->(E[n].at'==(k:Int) && E[n].nmi==nmi)=false):=j_ (fun n h hn=>by
     by_cases e:n=j
     ·subst e;exact hb
     ·exact HN.out n h dQ)
    obtain⟨x,hx⟩:∃ x,E[j]=x:=⟨_,rfl⟩;rw[hx] at p0 p1 hb;clear hx HN;cases hb1:(x.at'==(k:Int)) with
    | false=>
     clear hb;go_wp2;go_round
     case rel=>exact⟨j+1,dQ,bQh,b6⟩
     case measure=>simp[intOf];omega
    | true=>
     rw[hb1,Bool.true_and] at hb;go_wp2;go_round
     case rel=>exact⟨j+1,dQ,bQh,b6⟩
     case measure=>simp[intOf];omega
  ·obtain rfl:j=E.length:=dQ;have b3:r=false:=by
    rw[<-HQ.out];unfold mBA;rw[List.any_eq_false];intro x hx;obtain⟨n,hn,rfl⟩:=List.getElem_of_mem hx;have:=HN.out n hn hn;simpa using this
   subst b3;clear HN HQ;go_wp2;go_ret;exact⟨rfl,Below.refl _ _⟩

end Go.Proofs.YtckfdbjjjgfbfaaGreat
