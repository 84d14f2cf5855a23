import Derived.Test.YtckfdbjjjgfbfaaGreatRPhr
import Derived.Test.YtckfdbjjjgfbfaaGreatRRamB
import Derived.Test.YtckfdbjjjgfbfaaGreatRRegStep
import Derived.Test.YtckfdbjjjgfbfaaGreatRAluA
import Derived.Deep.AppendLies
import Derived.Test.YtckfdbjjjgfbfaaGreatRStepC
set_option linter.unusedVariables false
set_option linter.unusedSimpArgs false
set_option maxRecDepth 100000
namespace Go.Proofs.YtckfdbjjjgfbfaaGreat
open Go.RowKit
theorem gCB (a:Option Addr) (cap:Nat) (L:List Nat) (w:World) (hl:L.length<=1048576) (h:RowB w a L) :
  Calls Tryz.prog 21 #[ramV (.slice a L.length cap)] w fun e w'=>∃ g,e=.returned (ramV (.slice (some ⟨g,0,none⟩) L.length L.length))/\SegB w' w.heap.size w'.heap.size (.slice (some ⟨g,0,none⟩) L.length L.length) L/\Below w.heap.size w w':=by
 refine (aIA a cap L w hl h).mono ?_;rintro e w' ⟨g,rfl,ho,hb⟩;exact⟨g,rfl,SegB.of ho,hb⟩
theorem bOA (a1 a2:Option Addr) (c1 c2:Nat) (L:List Nat) (w:World) (hl:L.length<=1048576) (h1:RowB w a1 L) (h2:RowB w a2 L) :
  Calls Tryz.prog 24 #[ramV (.slice a1 L.length c1),ramV (.slice a2 L.length c2)] w fun e w'=>e=.returned (.bool true)/\Below w.heap.size w w':=pZA a1 a2 c1 c2 L w dQ h1 h2
theorem hLA (a:Option Addr) (cap k0 lo hi:Nat) (L:List Nat) (w:World) (hl:L.length<=1048576) (hk:k0<=100000000) (h:SegB w lo hi (.slice a L.length cap) L) :
  Calls Tryz.prog 26 #[ramV (.slice a L.length cap),.int .i64 k0] w fun e w'=>e=.returned (.int .i64 (k0+L.length:Nat))/\SegB w' lo hi (.slice a L.length cap) (pDA k0 L.length)/\Span lo hi w w':=by
 by_cases h0:L.length=0
 ·obtain rfl:L=[]:=List.length_eq_zero_iff.1 h0;refine (lOA a cap k0 w).mono ?_;rintro e w' ⟨rfl,hb⟩;exact⟨rfl,h.below hb,Span.of_below _ _ hb⟩
 ·obtain⟨g,cp,hv,_⟩:=h.1.cells dQ;simp only[Value.slice.injEq] at hv;obtain⟨rfl,_,rfl⟩:=hv;have d6:=((World.ownsRow.lt h.1.2) g rfl).1;have c7:=h.2 g rfl;refine (rUA g L.length cap k0 lo L w rfl dQ h.1).mono ?_;rintro e w' ⟨rfl,ho,hg⟩;exact⟨rfl,⟨ho,h.2⟩,Span.of_grown hg d6 c7⟩
theorem vVA (a:Option Addr) (cap k0 n lo hi:Nat) (w:World) (H:n<=1048576) (hk:k0<=100000000) (h:SegB w lo hi (.slice a n cap) (pDA k0 n)) :
  Calls Tryz.prog 62 #[ramV (.slice a n cap),.int .i64 k0] w fun e w'=>e=.returned (.int .i64 (k0+n:Nat))/\Below w.heap.size w w':=iVA a n cap k0 w dQ h.row
structure Turn (F:Nat->Prop) (w w':World):Prop where
 os:w'.os=w.os
 tape:w'.tape=w.tape
 output:w'.output=w.output
 size:w.heap.size<=w'.heap.size
 block:∀ i,i < w.heap.size->¬ F i->w'.heap[i]?=w.heap[i]?
theorem Turn.refl (F:Nat->Prop) (w:World):Turn F w w:=⟨rfl,rfl,rfl,Nat.le_refl _,fun _ _ _=>rfl⟩
theorem Turn.trans {F:Nat->Prop} {a b c:World} (h:Turn F a b) (k:Turn F b c):Turn F a c:=
 ⟨k.os.trans h.os,k.tape.trans h.tape,k.output.trans h.output,Nat.le_trans h.size k.size,fun i hi H=>(k.block i (Nat.lt_of_lt_of_le hi h.size) H).trans (h.block i hi H)⟩
theorem Turn.mono {F G:Nat->Prop} {a b:World} (h:Turn F a b) (hs:∀ i,i < a.heap.size->F i->G i):Turn G a b:=
 ⟨h.os,h.tape,h.output,h.size,fun i hi H=>h.block i hi (fun hf=>H (hs i hi hf))⟩
theorem Turn.of_below {F:Nat->Prop} {a b:World} (h:Below a.heap.size a b):Turn F a b:=⟨h.os,h.tape,h.output,h.size,fun i hi _=>h.block i hi⟩
theorem Turn.of_grown {F:Nat->Prop} {a b:World} {r:Option Nat} (h:a.grownBy b r) (hg:∀ g,r=some g->F g):Turn F a b:=
 ⟨h.os,h.tape,h.output,h.size,fun i hi H=>h.block i hi (fun e=>H (hg i e.symm))⟩
theorem Turn.set {F:Nat->Prop} (w:World) (B k:Nat) (v:Value) (hF:F B):Turn F w (w.setCell ⟨B,k,none⟩ v):=
 ⟨rfl,rfl,rfl,xQ,fun i _ H=>Below.heap_setCell _ _ _ _ (by show i≠B;intro e;subst e;exact H hF)⟩
theorem Turn.below {F:Nat->Prop} {a b:World} {n:Nat} (h:Turn F a b) (h1:∀ i,i < n->¬ F i) (h2:n<=a.heap.size):Below n a b:=
 ⟨h.os,h.tape,h.output,h.size,fun i hi=>h.block i dQ (h1 i hi)⟩
theorem BoxN.turn {F:Nat->Prop} {w w1:World} {B:Nat} {t:TypeId} {cs:Array Value} (h:BoxN w B t cs) (ht:Turn F w w1) (hd:¬ F B):BoxN w1 B t cs:=(ht.block B h.lt hd).trans h
def OwnC (w:World) (base:Nat) (v:Value) (L:List CycN):Prop:=w.ownsRow base 91 3 v L.length (L.flatMap xAA)
def BusAt (w:World) (F:Nat->Prop) (B:Nat) (b:BusN):Prop:=
 ∃ g cap v,BoxN w B 121 #[.slice (some ⟨g,0,none⟩) b.mem.length cap,v]/\OwnB w 0 (.slice (some ⟨g,0,none⟩) b.mem.length cap) b.mem/\OwnC w 0 v b.log /\
  F B/\F g/\g≠B/\∀ k,v.ownBlock=some k->F k/\k≠B/\k≠g
def BusN.fit (b:BusN) (k:Nat):Prop:=ramN b.mem.length=true/\b.log.length<=k
theorem BusN.fit.rd {b:BusN} {k a:Nat} (h:b.fit k):(b.rd a).fit (k+1):=⟨h.1,by simp[BusN.rd];exact h.2⟩
theorem BusN.fit.put {b:BusN} {k a d:Nat} (h:b.fit k):(b.put a d).fit (k+1):=⟨by simp[BusN.put];exact h.1,by simp[BusN.put];exact h.2⟩
theorem BusN.fit.mono {b:BusN} {k l:Nat} (h:b.fit k) (hl:k<=l):b.fit l:=⟨h.1,Nat.le_trans h.2 hl⟩
theorem BusN.fit.spot {b:BusN} {k:Nat} (h:b.fit k) (a:Nat):b.spot a < b.mem.length:=Nat.mod_lt _ (by have:=eBA h.1;omega)
theorem BusAt.byte {w:World} {F:Nat->Prop} {B:Nat} {b:BusN} (h:BusAt w F B b) (a:Nat):b.get a < 256:=by
 obtain⟨g,cap,v,_,ho,_⟩:=h;exact ho.row.2.byte' _
theorem BusAt.less {w:World} {F G:Nat->Prop} {B:Nat} {b:BusN} (h:BusAt w F B b) (hs:∀ i,i < w.heap.size->F i->G i):BusAt w G B b:=by
 obtain⟨g,cap,v,hb,ho,hc,Q,O,hne,J⟩:=h;exact⟨g,cap,v,hb,ho,hc,hs _ hb.lt Q,hs _ ((World.ownsRow.lt ho.2) g rfl).2 O,hne,fun k ek=>⟨hs _ ((World.ownsRow.lt hc) k ek).2 (J k ek).1,(J k ek).2⟩⟩
theorem bEA {w w':World} {base:Nat} {v:Value} {L:List CycN} (h:OwnC w base v L) (hb:Below w.heap.size w w'):OwnC w' base v L:=by
 refine World.ownsRow.kept h (row:=none) ⟨hb.os,hb.tape,hb.output,hb.size,fun i hi _=>hb.block i hi⟩ ?_;cases v.ownBlock<;>simp
theorem BusAt.below {w w':World} {F:Nat->Prop} {B:Nat} {b:BusN} (h:BusAt w F B b) (hb:Below w.heap.size w w'):BusAt w' F B b:=by
 obtain⟨g,cap,v,hx,ho,hc,b7⟩:=h;exact⟨g,cap,v,hx.below hb,ho.below hb,bEA hc hb,b7⟩
theorem nIA:(Tryz.prog.info? 91).map (fun i=>(i.zero,i.size,i.bytes))=some (some (.agg #[.int .u16 0,.int .u8 0,.bool false]),3,4):=gQ
theorem nFA (w:World) (x y z:Value) (t:TypeId):∀ j u,[x,y,z][j]?=some u->(w.alloc (.cells #[x,y,z] t)).cell? ((⟨w.heap.size,0,none⟩:Addr).add j)=some u:=by
 intro j u hj
 match j,hj with
 | 0,hj=>simp at hj;subst hj;simp[Addr.add]
 | 1,hj=>simp at hj;subst hj;simp[Addr.add]
 | 2,hj=>simp at hj;subst hj;simp[Addr.add]
 | j+3,hj=>simp at hj
theorem lEA (w:World) (B k:Nat) (v:Value):w.grownBy (w.setCell ⟨B,k,none⟩ v) (some B):=
 ⟨rfl,rfl,rfl,xQ,fun i _ H=>Below.heap_setCell _ _ _ _ (by show i≠B;intro e;subst e;exact H rfl)⟩
theorem xQA {w w0 K:World} {F:Nat->Prop} {B g cap:Nat} {v U:Value} {M:List Nat} {L:List CycN} {c:CycN}
  (hb:BoxN w B 121 #[.slice (some ⟨g,0,none⟩) M.length cap,v]) (ho:OwnB w 0 (.slice (some ⟨g,0,none⟩) M.length cap) M) (hc:OwnC w 0 v L)
  (Q:F B) (O:F g) (hne:g≠B) (J:∀ k,v.ownBlock=some k->F k/\k≠B/\k≠g) (hF:∀ i,w.heap.size<=i->F i)
  (h0:Below w.heap.size w w0) (hgrow:w0.grownBy K v.ownBlock) (b9:K.ownsRow 0 91 3 U (L.length+1) (L.flatMap xAA++xAA c)) (b6:∀ k,U.ownBlock=some k->v.ownBlock=some k\/w0.heap.size<=k) :
  BoxN K B 121 #[.slice (some ⟨g,0,none⟩) M.length cap,v]/\OwnB K 0 (.slice (some ⟨g,0,none⟩) M.length cap) M/\BusAt (K.setCell ⟨B,1,none⟩ U) F B ⟨M,L++[c]⟩/\Turn F w (K.setCell ⟨B,1,none⟩ U):=by
 have d9:=((World.ownsRow.lt ho.2) g rfl).2;have b4:BoxN K B 121 #[.slice (some ⟨g,0,none⟩) M.length cap,v]:=by
  have d4:=(hb.below h0).lt;exact (hgrow.block B d4 (fun e=>(J B e.symm).2.1 rfl)).trans (hb.below h0)
 have o4:OwnB K 0 (.slice (some ⟨g,0,none⟩) M.length cap) M:=by
  refine⟨ho.1,World.ownsRow.kept (ho.below h0).2 hgrow ?_⟩;exact .inr (fun e=>(J g e.symm).2.2 rfl)
 have n4:∀ k,U.ownBlock=some k->F k/\k≠B/\k≠g:=fun k ek=>by
  rcases b6 k ek with h|h
  ·exact J k h
  ·have h1:=hb.lt;have h2:=h0.size;exact⟨hF k dQ,dQ,dQ⟩
 have t4:Turn F w K:=(Turn.of_below h0).trans (Turn.of_grown hgrow (fun k ek=>(J k ek).1));refine⟨b4,o4,⟨g,cap,U,?_,?_,?_,Q,O,hne,n4⟩,t4.trans (Turn.set _ _ _ _ Q)⟩
 ·exact b4.set 1 U
 ·exact zEA o4 (lEA K B 1 U) (fun k ek=>by simp[Value.ownBlock] at ek;omega)
 ·have e:(L++[c]).flatMap xAA=L.flatMap xAA++xAA c:=xQ;unfold OwnC;rw[e,show (L++[c]).length=L.length+1 by simp];refine World.ownsRow.kept b9 (lEA K B 1 U) ?_;cases hv:U.ownBlock with
  | none=>exact .inl rfl
  | some k=>exact .inr (by simpa using (n4 k hv).2.1)
theorem jJB (F:Nat->Prop) (B:Nat) (b:BusN) (a:Nat) (ha:a < 200000) (hf:b.fit 30) (w:World) (hF:∀ i,w.heap.size<=i->F i) (h:BusAt w F B b) :
  Calls Tryz.prog 76 #[.pointer (some ⟨B,0,none⟩),.int .i64 a] w fun e w'=>e=.returned (.int .u8 (b.get a))/\BusAt w' F B (b.rd a)/\Turn F w w':=by
 obtain⟨i0,hi,hz0,hz1,a3⟩:=info_parts nIA;obtain⟨g,cap,v,hb,ho,hc,Q,O,hne,J⟩:=h;have hsp:=hf.spot a;obtain⟨n,H⟩:∃ n,b.mem.length=n:=⟨_,rfl⟩;have hA:bits .and .i64 (a:Int) 65535=((a % 65536:Nat):Int):=by
  have:=xEA (a:Int) 16 dQ;simp at this;omega
 have a8:¬ ((n:Int)=0):=by have:=eBA hf.1;omega
 have d2:((n:Int)==0)=false:=by simpa using a8
 have c0:=hb.cell 0 _ rfl;have c1:=hb.cell 1 _ rfl;have f1:=hb.frozen 1;have k1:=(aGA ho hsp).1;have hr:((a % 65536:Nat):Int).tmod (n:Int)=((b.spot a:Nat):Int):=by rw[<-Int.ofNat_tmod,<-H];rfl
 have T:=hsp;rw[H] at T c0;obtain⟨x,hx⟩:∃ x,b.spot a=x:=⟨_,rfl⟩;have hd:b.mem.getD x 0=b.get a:=by rw[<-hx];rfl
 rw[hx] at hr k1 T;rw[hd] at k1;have a7:b.get a < 256:=by rw[<-hd];exact ho.row.2.byte' _
 obtain⟨d,a5⟩:∃ d,b.get a=d:=⟨_,rfl⟩;rw[a5] at k1 a7 ⊢;obtain⟨y,hy⟩:∃ y,a % 65536=y:=⟨_,rfl⟩;have b8:y < 65536:=dQ;rw[hy] at hA hr;have HN:=hQ H;have HX:=hQ hx;have HD:=hQ a5;have HY:=hQ hy;have d3:n<=4096:=by rw[<-H];exact (eBA hf.1).2
 have d1:IntKind.i64.wrap (n:Int)=(n:Int):=IntWalk.i64_in _ dQ;have c9:IntKind.i64.wrap (y:Int)=(y:Int):=IntWalk.i64_in _ dQ;have d7:IntKind.i64.wrap (x:Int)=(x:Int):=IntWalk.i64_in _ dQ;have ik:(0:Int)<=(x:Int)/\(x:Int) < (n:Int):=dQ;have b5:w.cell? ⟨B,0,none⟩=some (.slice (some ⟨g,0,none⟩) n cap):=c0;have d8:w.cell? ⟨B,1,none⟩=some v:=c1;clear H hx hd a5 hy hsp c0 c1;go_enter Tryz.func76,Tryz.ntmps76;go_wp2_with fail;go_quiet (fail);go_wp2_with (at_builtin;refine wpList_append_lies _ rfl _ _ 34 rfl 0 91 i0 (.agg #[.int .u16 0,.int .u8 0,.bool false]) 3 4 Tryz.underlying34 hi hz0 hz1 a3 rfl iQ _ _ _ rfl (World.ownsRow.alloc (bEA hc (below_drewN (Below.refl _ _) _)) _) ⟨w.heap.size,0,none⟩ 1 1 (xAA ⟨y,d,false⟩) rfl rfl ?c2 ?c6 iQ ?c3 ?c4 ?c5 _ rfl ?_)
 case c2=>
  intro j u hj;have:=nFA (w.drewN nq) _ _ _ 91 j u hj;rw[show (w.drewN nq).heap.size=w.heap.size by simp] at this;exact this
 case c6=>intro u hu;simp[xAA] at hu;rcases hu with rfl|rfl|rfl<;>rfl
 case c3=>unfold maxLen;have:=hf.2;omega
 case c4=>have:=hf.2;omega
 case c5=>exact Nat.zero_le _
 intro g' b0 K hown' hgrow R _;have E:=xQA (c:=⟨y,d,false⟩) hb ho hc Q O hne J hF ((below_drewN (Below.refl _ _) nq).alloc xQ _) hgrow hown' (fun k ek=>by
  simp only[Value.ownBlock,Option.some.injEq] at ek;subst ek;rcases R with h|h
  ·exact .inl h
  ·exact .inr qQ)
 have c4:=E.1.cell 1 v rfl;have f4:=E.1.frozen 1;have HF:=hQ E.2.2;clear E hown' hgrow R;go_wp2;go_ret;refine⟨rfl,?_⟩;have:=HF.out;unfold BusN.rd;rw[HY.out,HD.out];exact this
theorem cAB (F:Nat->Prop) (B:Nat) (b:BusN) (a d:Nat) (ha:a < 200000) (a7:d < 256) (hf:b.fit 30) (w:World) (hF:∀ i,w.heap.size<=i->F i) (h:BusAt w F B b) :
  Calls Tryz.prog 103 #[.pointer (some ⟨B,0,none⟩),.int .i64 a,.int .u8 d] w fun e w'=>e=.returned (.tuple #[])/\BusAt w' F B (b.put a d)/\Turn F w w':=by
 obtain⟨i0,hi,hz0,hz1,a3⟩:=info_parts nIA;obtain⟨g,cap,v,hb,ho,hc,Q,O,hne,J⟩:=h;have hsp:=hf.spot a;obtain⟨n,H⟩:∃ n,b.mem.length=n:=⟨_,rfl⟩;have hA:bits .and .i64 (a:Int) 65535=((a % 65536:Nat):Int):=by
  have:=xEA (a:Int) 16 dQ;simp at this;omega
 have a8:¬ ((n:Int)=0):=by have:=eBA hf.1;omega
 have d2:((n:Int)==0)=false:=by simpa using a8
 have c0:=hb.cell 0 _ rfl;have k1:=(aGA ho hsp).1;have k2:=(aGA ho hsp).2;have hr:((a % 65536:Nat):Int).tmod (n:Int)=((b.spot a:Nat):Int):=by rw[<-Int.ofNat_tmod,<-H];rfl
 have T:=hsp;rw[H] at T c0;obtain⟨x,hx⟩:∃ x,b.spot a=x:=⟨_,rfl⟩;rw[hx] at hr k1 k2 T;obtain⟨y,hy⟩:∃ y,a % 65536=y:=⟨_,rfl⟩;have b8:y < 65536:=dQ;rw[hy] at hA hr;have d3:n<=4096:=by rw[<-H];exact (eBA hf.1).2
 have d1:IntKind.i64.wrap (n:Int)=(n:Int):=IntWalk.i64_in _ dQ;have c9:IntKind.i64.wrap (y:Int)=(y:Int):=IntWalk.i64_in _ dQ;have d7:IntKind.i64.wrap (x:Int)=(x:Int):=IntWalk.i64_in _ dQ;have ik:(0:Int)<=(x:Int)/\(x:Int) < (n:Int):=dQ;have b5:w.cell? ⟨B,0,none⟩=some (.slice (some ⟨g,0,none⟩) n cap):=c0;have e0:¬ n=0:=dQ;have HN:=hQ H;have HX:=hQ hx;have HY:=hQ hy;clear H hx hy hsp c0;go_enter Tryz.func103,Tryz.ntmps103;go_wp2_with fail;go_still_tail 13,gQ;change wpList _ _ _ _ _ w.drew;have P:Below w.heap.size w w.drew:=(Below.refl _ _).drew;have hb1:=hb.below P;have a4:=ho.below P;have a9:=bEA hc P;have d0:w.drew.cell? ⟨g,x,none⟩=some _:=k1;have c8:w.drew.frozen? ⟨g,x,none⟩=false:=k2;have hz:w.drew.heap.size=w.heap.size:=rfl;have tP:Turn F w w.drew:=Turn.of_below P;clear hb ho hc k1 k2 P b5;generalize w.drew=w1 at hb1 a4 a9 d0 c8 hz tP ⊢;obtain⟨o2,g2⟩:=qLA (k:=x) a4 rfl a7;have b2:BoxN (w1.setCell ⟨g,x,none⟩ (.int .u8 (d:Int))) B 121 #[.slice (some ⟨g,0,none⟩) b.mem.length cap,v]:=(g2.block B hb1.lt qQ).trans hb1;have q2:OwnC (w1.setCell ⟨g,x,none⟩ (.int .u8 (d:Int))) 0 v b.log:=by
  refine World.ownsRow.kept a9 g2 ?_;cases hv:v.ownBlock with
  | none=>exact .inl rfl
  | some k=>exact .inr (by simpa using (J k hv).2.2)
 have t2:Turn F w (w1.setCell ⟨g,x,none⟩ (.int .u8 (d:Int))):=tP.trans (Turn.set _ _ _ _ O);have c1:=b2.cell 1 v rfl;have b3:(w1.setCell ⟨g,x,none⟩ (.int .u8 (d:Int))).heap.size=w.heap.size:=by simp[hz]
 have HS:=hQ (And.intro o2 (And.intro b2 t2));clear o2 g2 b2 t2 hb1 a4 a9 tP;go_wp2_with (at_builtin;refine wpList_append_lies _ rfl _ _ 34 rfl 0 91 i0 (.agg #[.int .u16 0,.int .u8 0,.bool false]) 3 4 Tryz.underlying34 hi hz0 hz1 a3 rfl iQ _ _ _ rfl (World.ownsRow.alloc q2 _) ⟨w.heap.size,0,none⟩ 1 1 (xAA ⟨y,d,true⟩) rfl rfl ?c2 ?c6 iQ ?c3 ?c4 ?c5 _ rfl ?_)
 case c2=>
  intro j u hj;have:=nFA (w1.setCell ⟨g,x,none⟩ (.int .u8 (d:Int))) _ _ _ 91 j u hj;rw[b3] at this;exact this
 case c6=>intro u hu;simp[xAA] at hu;rcases hu with rfl|rfl|rfl<;>rfl
 case c3=>unfold maxLen;have:=hf.2;omega
 case c4=>have:=hf.2;omega
 case c5=>exact Nat.zero_le _
 intro g' b0 K hown' hgrow R _;have a0:(b.mem.set x d).length=b.mem.length:=List.length_set;have E:=xQA (c:=⟨y,d,true⟩) (M:=b.mem.set x d) (by rw[a0];exact HS.out.2.1) (by rw[a0];exact HS.out.1) q2 Q O hne J (fun i hi=>hF i (by rw[<-b3];exact hi)) ((Below.refl _ _).alloc (Nat.le_refl _) _) hgrow hown' (fun k ek=>by
  simp only[Value.ownBlock,Option.some.injEq] at ek;subst ek;rcases R with h|h
  ·exact .inl h
  ·exact .inr oQh)
 have c4:=E.1.cell 1 v rfl;have f4:=E.1.frozen 1;have HF:=hQ (And.intro E.2.2.1 (HS.out.2.2.trans E.2.2.2));clear E hown' hgrow R HS;go_wp2
 (try simp only[Exit.inBlock,Exit.then])
 first|refine bodyPost_ret (results_none rfl _ _ _) rfl ?_|refine bodyPost_end (results_none rfl _ _ _) rfl ?_
 refine⟨rfl,?_⟩;have:=HF.out;unfold BusN.put;rw[HY.out,HX.out];exact this
def Less (F:Nat->Prop) (n k:Nat):Nat->Prop:=fun i=>F i/\(i < n\/n+k<=i)
structure Sit (F:Nat->Prop) (w:World) (k B:Nat) (W:World) (b:BusN):Prop where
 bus:BusAt W (Less F w.heap.size k) B b
 turn:Turn F w W
 size:w.heap.size+k<=W.heap.size
 new:∀ i,w.heap.size<=i->F i
theorem Sit.hF {F:Nat->Prop} {w W:World} {k B:Nat} {b:BusN} (s:Sit F w k B W b):∀ i,W.heap.size<=i->Less F w.heap.size k i:=fun i hi=>⟨s.new i (by have:=s.size;omega),.inr (by have:=s.size;omega)⟩
theorem BusAt.alloc {w:World} {F:Nat->Prop} {B:Nat} {b:BusN} (h:BusAt w F B b) (o:Obj):BusAt (w.alloc o) F B b:=h.below ((Below.refl _ _).alloc (Nat.le_refl _) _)
theorem Sit.zero {F:Nat->Prop} {w:World} {B:Nat} {b:BusN} (h:BusAt w F B b) (hF:∀ i,w.heap.size<=i->F i):Sit F w 0 B w b:=
 ⟨h.less (fun i hi hf=>⟨hf,.inl hi⟩),Turn.refl _ _,dQ,hF⟩
theorem Sit.one {F:Nat->Prop} {w:World} {B:Nat} {b:BusN} (h:BusAt w F B b) (hF:∀ i,w.heap.size<=i->F i) (o:Obj):Sit F w 1 B (w.alloc o) b:=
 ⟨(h.less (fun i hi hf=>⟨hf,.inl hi⟩)).alloc o,Turn.of_below ((Below.refl _ _).alloc (Nat.le_refl _) _),xQ,hF⟩
theorem Sit.two {F:Nat->Prop} {w:World} {B:Nat} {b:BusN} (h:BusAt w F B b) (hF:∀ i,w.heap.size<=i->F i) (o p:Obj):Sit F w 2 B ((w.alloc o).alloc p) b:=
 ⟨((h.less (fun i hi hf=>⟨hf,.inl hi⟩)).alloc o).alloc p,Turn.of_below (((Below.refl _ _).alloc (Nat.le_refl _) _).alloc xQ _),xQ,hF⟩
theorem Sit.below {F:Nat->Prop} {w W W':World} {k B:Nat} {b:BusN} (s:Sit F w k B W b) (h:Below W.heap.size W W'):Sit F w k B W' b:=
 ⟨s.bus.below h,s.turn.trans (Turn.of_below h),Nat.le_trans s.size h.size,s.new⟩
theorem Turn.wide {F:Nat->Prop} {n k:Nat} {a b:World} (h:Turn (Less F n k) a b):Turn F a b:=h.mono (fun _ _ hf=>hf.1)
theorem BusAt.set {W:World} {F:Nat->Prop} {B:Nat} {b:BusN} (h:BusAt W F B b) {n k:Nat} (v:Value) (H:¬ F n):BusAt (W.setCell ⟨n,k,none⟩ v) F B b:=by
 obtain⟨g,cap,u,hb,ho,hc,Q,O,hne,J⟩:=h;have hg:=lEA W n k v;refine⟨g,cap,u,?_,zEA ho hg (fun j ej=>?_),World.ownsRow.kept hc hg ?_,Q,O,hne,J⟩
 ·exact (hg.block B hb.lt (fun e=>H (by simp only[Option.some.injEq] at e;rw[<-e];exact Q))).trans hb
 ·simp only[Value.ownBlock,Option.some.injEq] at ej;intro e;exact H (by rw[<-e,<-ej];exact O)
 ·cases hv:u.ownBlock with
  | none=>exact .inl rfl
  | some j=>exact .inr (by
    intro e;simp only[Option.some.injEq] at e;exact H (by rw[<-e];exact (J j hv).1))
theorem Sit.set {F:Nat->Prop} {w W:World} {k B:Nat} {b:BusN} (s:Sit F w k B W b) {n o:Nat} (v:Value) (h1:w.heap.size<=n) (h2:n < w.heap.size+k):Sit F w k B (W.setCell ⟨n,o,none⟩ v) b:=
 ⟨s.bus.set v (fun hf=>by have:=hf.2;omega),s.turn.trans (Turn.set _ _ _ _ (s.new n h1)),by have:=s.size;simp;omega,s.new⟩
theorem Sit.six {F:Nat->Prop} {w W:World} {k B:Nat} {b:BusN} (s:Sit F w k B W b) {n:Nat} (v5 v6 v7 v8 v9 b1:Value) (h1:w.heap.size<=n) (h2:n < w.heap.size+k):Sit F w k B (set6 W n v5 v6 v7 v8 v9 b1) b:=
 (((((s.set v5 h1 h2).set v6 h1 h2).set v7 h1 h2).set v8 h1 h2).set v9 h1 h2).set b1 h1 h2
theorem Sit.out {F:Nat->Prop} {w W:World} {k B:Nat} {b:BusN} (s:Sit F w k B W b):BusAt W F B b/\Turn F w W:=
 ⟨s.bus.less (fun _ _ hf=>hf.1),s.turn⟩
structure Went (F:Nat->Prop) (w:World) (k B:Nat) (W W':World) (b:BusN):Prop where
 sit:Sit F w k B W' b
 box:∀ n t cs,w.heap.size<=n->n < w.heap.size+k->BoxN W n t cs->BoxN W' n t cs
theorem Sit.went {F:Nat->Prop} {w W W':World} {k B:Nat} {b b':BusN} (s:Sit F w k B W b) (hB:BusAt W' (Less F w.heap.size k) B b') (t:Turn (Less F w.heap.size k) W W'):Went F w k B W W' b':=
 ⟨⟨hB,s.turn.trans t.wide,Nat.le_trans s.size t.size,s.new⟩,fun n _ _ h1 h2 hb=>hb.turn t (fun hf=>by have:=hf.2;omega)⟩
theorem Sit.rd {F:Nat->Prop} {w W:World} {k B:Nat} {b:BusN} (s:Sit F w k B W b) (x:Int) (a:Nat) (hx:x=(a:Int)) (ha:a < 200000) (hf:b.fit 30) {z:Nat} {b':BusN} (hz:b.get a=z) (a6:b.rd a=b') :
  Calls Tryz.prog 76 #[.pointer (some ⟨B,0,none⟩),.int .i64 x] W fun e w'=>e=.returned (.int .u8 (z:Nat))/\Went F w k B W w' b':=by
 subst hx;subst hz;subst a6;refine (jJB _ B b a ha hf W s.hF s.bus).mono ?_;rintro e w' ⟨rfl,hb,ht⟩;exact⟨rfl,s.went hb ht⟩
theorem Sit.wr {F:Nat->Prop} {w W:World} {k B:Nat} {b:BusN} (s:Sit F w k B W b) (x y:Int) (a d:Nat) (hx:x=(a:Int)) (hy:y=(d:Int)) (ha:a < 200000) (hd:d < 256) (hf:b.fit 30) {b':BusN} (a6:b.put a d=b') :
  Calls Tryz.prog 103 #[.pointer (some ⟨B,0,none⟩),.int .i64 x,.int .u8 y] W fun e w'=>e=.returned (.tuple #[])/\Went F w k B W w' b':=by
 subst hx;subst hy;subst a6;refine (cAB _ B b a d ha hd hf W s.hF s.bus).mono ?_;rintro e w' ⟨rfl,hb,ht⟩;exact⟨rfl,s.went hb ht⟩
theorem tFB (x y:Nat) (hx:x < 256) (hy:y < 256) (w:World) :
  Calls Tryz.prog 106 #[.int .u8 x,.int .u8 y] w fun e w'=>e=.returned (.int .i64 (word x y:Nat))/\w=w':=by
 go_enter Tryz.func106,Tryz.ntmps106;go_wp2;go_ret;refine⟨?_,rfl⟩;unfold word;go_num
theorem bBB (x:Int) (a:Nat) (hx:x % 256=((a % 256:Nat):Int)) (h0:-1000<=x) (h1:x<=1000) (w:World) :
  Calls Tryz.prog 104 #[.int .i64 x] w fun e w'=>e=.returned (.int .i64 (stk a:Nat))/\w=w':=by
 have hA:bits .and .i64 x 255=((a % 256:Nat):Int):=by rw[aDA,hx]
 obtain⟨y,hy⟩:∃ y,a % 256=y:=⟨_,rfl⟩;have b8:y < 256:=dQ;have HY:=hQ hy;rw[hy] at hA;clear hx hy;go_enter Tryz.func104,Tryz.ntmps104;go_wp2;go_ret;refine⟨?_,rfl⟩;unfold stk;rw[HY.out];go_num
theorem iBB (c:CpuN) (hc:c.ok) (m:Int) (h0:0<=m) (h1:m<=12) (w:World) :
  Calls Tryz.prog 141 #[cpuV c,.int .i64 m] w fun e w'=>e=.returned (.int .i64 (idxN c m:Nat))/\Below w.heap.size w w':=by
 obtain⟨hA,hX,hY,hS,hP⟩:=hc;have hm:m=0\/m=1\/m=2\/m=3\/m=4\/m=5\/m=6\/m=7\/m=8\/m=9\/m=10\/m=11\/m=12:=dQ;rcases hm with rfl|rfl|rfl|rfl|rfl|rfl|rfl|rfl|rfl|rfl|rfl|rfl|rfl
 all_goals
  go_enter Tryz.func141,Tryz.ntmps141;go_wp2;refine bodyPost_ret (v:=.int .i64 (idxN c _:Nat)) (by simp[results,Tryz.results141,go_sem,idxN]) rfl ⟨rfl,?_⟩;exact (Below.refl _ _).alloc (Nat.le_refl _) _
theorem oDA (c:CpuN) (hc:c.ok) (m:Int) (h0:0<=m) (h1:m<=12) {i:Nat} (hi:idxN c m=i) (w:World) :
  Calls Tryz.prog 141 #[cpuV c,.int .i64 m] w fun e w'=>e=.returned (.int .i64 (i:Nat))/\Below w.heap.size w w':=by
 subst hi;exact iBB c hc m h0 h1 w
theorem vCA (x y:Nat) (hx:x < 256) (hy:y < 256) {a:Nat} (ha:word x y=a) (w:World) :
  Calls Tryz.prog 106 #[.int .u8 x,.int .u8 y] w fun e w'=>e=.returned (.int .i64 (a:Nat))/\w=w':=by
 subst ha;exact tFB x y hx hy w

end Go.Proofs.YtckfdbjjjgfbfaaGreat
