import Derived.Test.YtckfdbjjjgfbfaaGreatVPlayNum
set_option linter.unusedVariables false
set_option linter.unusedSimpArgs false
set_option maxRecDepth 100000
namespace Go.Proofs.YtckfdbjjjgfbfaaGreat
open Go.RowKit
def nCA (w:World) (F:Nat->Prop) (B:Nat) (b:BusN):Prop:=
 ∃ g cap v,BoxN w B 188 #[.slice (some ⟨g,0,none⟩) b.mem.length cap,v]/\OwnB w 0 (.slice (some ⟨g,0,none⟩) b.mem.length cap) b.mem/\OwnC w 0 v b.log /\
  F B/\F g/\g≠B/\∀ k,v.ownBlock=some k->F k/\k≠B/\k≠g
theorem nCA.byte {w:World} {F:Nat->Prop} {B:Nat} {b:BusN} (h:nCA w F B b) (a:Nat):b.get a < 256:=by
 obtain⟨g,cap,v,_,ho,_⟩:=h;exact ho.row.2.byte' _
theorem nCA.less {w:World} {F G:Nat->Prop} {B:Nat} {b:BusN} (h:nCA w F B b) (hs:∀ i,i < w.heap.size->F i->G i):nCA w G B b:=by
 obtain⟨g,cap,v,hb,ho,hc,fB,fg,hne,Q⟩:=h;exact⟨g,cap,v,hb,ho,hc,hs _ hb.lt fB,hs _ ((World.ownsRow.lt ho.2) g rfl).2 fg,hne,fun k ek=>⟨hs _ ((World.ownsRow.lt hc) k ek).2 (Q k ek).1,(Q k ek).2⟩⟩
theorem nCA.below {w w':World} {F:Nat->Prop} {B:Nat} {b:BusN} (h:nCA w F B b) (hb:Below w.heap.size w w'):nCA w' F B b:=by
 obtain⟨g,cap,v,hx,ho,hc,b1⟩:=h;exact⟨g,cap,v,hx.below hb,ho.below hb,uDA hc hb,b1⟩
theorem pMA {w w0 U:World} {F:Nat->Prop} {B g cap:Nat} {v v':Value} {M:List Nat} {L:List CycN} {c:CycN}
  (hb:BoxN w B 188 #[.slice (some ⟨g,0,none⟩) M.length cap,v]) (ho:OwnB w 0 (.slice (some ⟨g,0,none⟩) M.length cap) M) (hc:OwnC w 0 v L)
  (fB:F B) (fg:F g) (hne:g≠B) (Q:∀ k,v.ownBlock=some k->F k/\k≠B/\k≠g) (hF:∀ i,w.heap.size<=i->F i)
  (h0:Below w.heap.size w w0) (hgrow:w0.grownBy U v.ownBlock) (a9:U.ownsRow 0 91 3 v' (L.length+1) (L.flatMap gBA++gBA c)) (a8:∀ k,v'.ownBlock=some k->v.ownBlock=some k\/w0.heap.size<=k) :
  BoxN U B 188 #[.slice (some ⟨g,0,none⟩) M.length cap,v]/\OwnB U 0 (.slice (some ⟨g,0,none⟩) M.length cap) M/\nCA (U.setCell ⟨B,1,none⟩ v') F B ⟨M,L++[c]⟩/\Turn F w (U.setCell ⟨B,1,none⟩ v'):=by
 have b5:=((World.ownsRow.lt ho.2) g rfl).2;have b4:BoxN U B 188 #[.slice (some ⟨g,0,none⟩) M.length cap,v]:=by
  have b3:=(hb.below h0).lt;exact (hgrow.block B b3 (fun e=>(Q B e.symm).2.1 rfl)).trans (hb.below h0)
 have o4:OwnB U 0 (.slice (some ⟨g,0,none⟩) M.length cap) M:=by
  refine⟨ho.1,World.ownsRow.kept (ho.below h0).2 hgrow ?_⟩;exact .inr (fun e=>(Q g e.symm).2.2 rfl)
 have n4:∀ k,v'.ownBlock=some k->F k/\k≠B/\k≠g:=fun k ek=>by
  rcases a8 k ek with h|h
  ·exact Q k h
  ·have h1:=hb.lt;have h2:=h0.size;exact⟨hF k dQ,dQ,dQ⟩
 have t4:Turn F w U:=(Turn.of_below h0).trans (Turn.of_grown hgrow (fun k ek=>(Q k ek).1));refine⟨b4,o4,⟨g,cap,v',?_,?_,?_,fB,fg,hne,n4⟩,t4.trans (Turn.set _ _ _ _ fB)⟩
 ·exact b4.set 1 v'
 ·exact gFA o4 (zDA U B 1 v') (fun k ek=>by simp[Value.ownBlock] at ek;omega)
 ·have e:(L++[c]).flatMap gBA=L.flatMap gBA++gBA c:=yQ;unfold OwnC;rw[e,show (L++[c]).length=L.length+1 by simp];refine World.ownsRow.kept a9 (zDA U B 1 v') ?_;cases hv:v'.ownBlock with
  | none=>exact .inl rfl
  | some k=>exact .inr (by simpa using (n4 k hv).2.1)
theorem nCA.alloc {w:World} {F:Nat->Prop} {B:Nat} {b:BusN} (h:nCA w F B b) (o:Obj):nCA (w.alloc o) F B b:=h.below ((Below.refl _ _).alloc (Nat.le_refl _) _)
theorem nCA.set {W:World} {F:Nat->Prop} {B:Nat} {b:BusN} (h:nCA W F B b) {n k:Nat} (v:Value) (hn:¬ F n):nCA (W.setCell ⟨n,k,none⟩ v) F B b:=by
 obtain⟨g,cap,u,hb,ho,hc,fB,fg,hne,Q⟩:=h;have hg:=zDA W n k v;refine⟨g,cap,u,?_,gFA ho hg (fun j ej=>?_),World.ownsRow.kept hc hg ?_,fB,fg,hne,Q⟩
 ·exact (hg.block B hb.lt (fun e=>hn (by simp only[Option.some.injEq] at e;rw[<-e];exact fB))).trans hb
 ·simp only[Value.ownBlock,Option.some.injEq] at ej;intro e;exact hn (by rw[<-e,<-ej];exact fg)
 ·cases hv:u.ownBlock with
  | none=>exact .inl rfl
  | some j=>exact .inr (by
    intro e;simp only[Option.some.injEq] at e;exact hn (by rw[<-e];exact (Q j hv).1))
theorem jXA {b:BusN} {a:Nat} (h:ramN b.mem.length=true) (E:a < 65536):peekL b.mem a=b.get a:=by
 unfold BusN.get BusN.spot peekL;rw[if_pos h,Nat.mod_eq_of_lt E]
theorem tEB (F:Nat->Prop) (B:Nat) (b:BusN) (a:Nat) (E:a < 65536) (hf:b.fit 100) (w:World) (hF:∀ i,w.heap.size<=i->F i) (h:nCA w F B b) :
  Calls Tryz.prog 224 #[.pointer (some ⟨B,0,none⟩),.int .u16 a] w fun e w'=>e=.returned (.int .u8 (b.get a))/\nCA w' F B (b.rd a)/\Turn F w w':=by
 obtain⟨i0,hi,hz0,hz1,a4⟩:=info_parts yGA;have h':=h;obtain⟨g,cap,v,hb,ho,hc,fB,fg,hne,Q⟩:=h;obtain⟨d,hd⟩:∃ d,b.get a=d:=⟨_,rfl⟩;have a6:d < 256:=by rw[<-hd];exact h'.byte _
 have c0:w.cell? ⟨B,0,none⟩=some (.slice (some ⟨g,0,none⟩) b.mem.length cap):=hb.cell 0 _ rfl;have HD:=j_ hd;have e0:=(jXA hf.1 E).trans hd;rw[hd];clear hd h';go_enter Tryz.func224,Tryz.ntmps224;go_wp2_with fail;refine (bGA _ cap a b.mem E _ ho.row.2).mono ?_;rintro e w1 ⟨rfl,d1⟩;rw[e0];have hb1:=hb.below d1;have b8:=ho.below d1;have a2:=uDA hc d1;have c1:w1.cell? ⟨B,1,none⟩=some v:=hb1.cell 1 _ rfl;have f1:=hb1.frozen 1;have b2:=hb1.lt;have D1:=j_ d1;clear c0 d1 hb ho hc e0;go_wp2_with (at_builtin;refine wpList_append_lies _ rfl _ _ 34 rfl 0 91 i0 (.agg #[.int .u16 0,.int .u8 0,.bool false]) 3 4 Tryz.underlying34 hi hz0 hz1 a4 rfl iQ _ _ _ rfl (World.ownsRow.alloc a2 _) ⟨w1.heap.size,0,none⟩ 1 1 (gBA ⟨a,d,false⟩) rfl rfl ?c2 ?c6 iQ ?c3 ?c4 ?c5 _ rfl ?_)
 case c2=>
  intro j u hj;exact eFA w1 _ _ _ 91 j u hj
 case c6=>intro u hu;simp[gBA] at hu;rcases hu with rfl|rfl|rfl<;>rfl
 case c3=>unfold maxLen;have:=hf.2;omega
 case c4=>have:=hf.2;omega
 case c5=>exact Nat.zero_le _
 intro g' a5 U hown' hgrow a1 _;have l:=pMA (w:=w1) (c:=⟨a,d,false⟩) hb1 b8 a2 fB fg hne Q (fun i hi=>hF i (Nat.le_trans D1.out.size hi)) ((Below.refl _ _).alloc (Nat.le_refl _) _) hgrow hown' (fun k ek=>by
  simp only[Value.ownBlock,Option.some.injEq] at ek;subst ek;rcases a1 with h|h
  ·exact .inl h
  ·exact .inr gQh)
 have c4:=l.1.cell 1 v rfl;have f4:=l.1.frozen 1;have HF:=j_ (And.intro l.2.2.1 ((Turn.of_below D1.out).trans l.2.2.2));clear l hown' hgrow a1 c1 f1;go_wp2;go_ret;refine⟨rfl,?_⟩;have:=HF.out;unfold BusN.rd;rw[HD.out,Nat.mod_eq_of_lt E];exact this
theorem uEB (F:Nat->Prop) (B:Nat) (b:BusN) (a d:Nat) (E:a < 65536) (a6:d < 256) (hf:b.fit 100) (w:World) (hF:∀ i,w.heap.size<=i->F i) (h:nCA w F B b) :
  Calls Tryz.prog 225 #[.pointer (some ⟨B,0,none⟩),.int .u16 a,.int .u8 d] w fun e w'=>e=.returned (.tuple #[])/\nCA w' F B (b.put a d)/\Turn F w w':=by
 obtain⟨i0,hi,hz0,hz1,a4⟩:=info_parts yGA;obtain⟨g,cap,v,hb,ho,hc,fB,fg,hne,Q⟩:=h;have b5:=((World.ownsRow.lt ho.2) g rfl).2;have c0:w.cell? ⟨B,0,none⟩=some (.slice (some ⟨g,0,none⟩) b.mem.length cap):=hb.cell 0 _ rfl;have al:Below w.heap.size w (w.alloc (.cells #[.int .u8 (d:Int)] 5)):=(Below.refl _ _).alloc (Nat.le_refl _) _;have hrow:RowB (w.alloc (.cells #[.int .u8 (d:Int)] 5)) (some ⟨w.heap.size,0,none⟩) [d]:=(fGB w [d] yQ (fun i hi=>by have h0:i=0:=by { simpa using hi };rw[h0];exact a6)).row.2;have T:=fun x=>cMA g b.mem.length cap 0 a b.mem (some ⟨w.heap.size,0,none⟩) x [d] (w.alloc (.cells #[.int .u8 (d:Int)] 5)) E hf.1 rfl (ho.below al) hrow (fun _ y ey=>by simp only[Option.some.injEq] at ey;subst ey;show w.heap.size≠g;omega) yQ
 have a7:([d]:List Nat).length=1:=rfl;rw[a7] at T;have a0:cCA b.mem.length a [d] 0 b.mem=b.mem.set (b.spot a) d:=rfl;rw[a0] at T;go_enter Tryz.func225,Tryz.ntmps225;go_wp2_with fail;refine (T 1 dQ).mono ?_;rintro e w1 ⟨rfl,o1,g1⟩;have a3:(b.mem.set (b.spot a) d).length=b.mem.length:=List.length_set;have hb1:BoxN w1 B 188 #[.slice (some ⟨g,0,none⟩) b.mem.length cap,v]:=(g1.block B (hb.below al).lt qQ).trans (hb.below al);have a2:OwnC w1 0 v b.log:=by
  refine World.ownsRow.kept (uDA hc al) g1 ?_;cases hv:v.ownBlock with
  | none=>exact .inl rfl
  | some k=>exact .inr (by simpa using (Q k hv).2.2)
 have t1:Turn F w w1:=(Turn.of_below al).trans (Turn.of_grown g1 (fun k ek=>by simp only[Option.some.injEq] at ek;subst ek;exact fg));have c1:w1.cell? ⟨B,1,none⟩=some v:=hb1.cell 1 _ rfl;have f1:=hb1.frozen 1;have b2:=hb1.lt;have T1:=j_ t1;clear c0 t1 g1 hb ho hc T al hrow a0;go_wp2_with (at_builtin;refine wpList_append_lies _ rfl _ _ 34 rfl 0 91 i0 (.agg #[.int .u16 0,.int .u8 0,.bool false]) 3 4 Tryz.underlying34 hi hz0 hz1 a4 rfl iQ _ _ _ rfl (World.ownsRow.alloc a2 _) ⟨w1.heap.size,0,none⟩ 1 1 (gBA ⟨a,d,true⟩) rfl rfl ?c2 ?c6 iQ ?c3 ?c4 ?c5 _ rfl ?_)
 case c2=>
  intro j u hj;exact eFA w1 _ _ _ 91 j u hj
 case c6=>intro u hu;simp[gBA] at hu;rcases hu with rfl|rfl|rfl<;>rfl
 case c3=>unfold maxLen;have:=hf.2;omega
 case c4=>have:=hf.2;omega
 case c5=>exact Nat.zero_le _
 intro g' a5 U hown' hgrow a1 _;have l:=pMA (w:=w1) (c:=⟨a,d,true⟩) (M:=b.mem.set (b.spot a) d) (by rw[a3];exact hb1) (by rw[a3];exact o1) a2 fB fg hne Q (fun i hi=>hF i (Nat.le_trans T1.out.size hi)) ((Below.refl _ _).alloc (Nat.le_refl _) _) hgrow hown' (fun k ek=>by
  simp only[Value.ownBlock,Option.some.injEq] at ek;subst ek;rcases a1 with h|h
  ·exact .inl h
  ·exact .inr gQh)
 have c4:=l.1.cell 1 v rfl;have f4:=l.1.frozen 1;have HF:=j_ (And.intro l.2.2.1 (T1.out.trans l.2.2.2));clear l hown' hgrow a1 c1 f1;go_wp2
 (try simp only[Exit.inBlock,Exit.then])
 first|refine bodyPost_ret (results_none rfl _ _ _) rfl ?_|refine bodyPost_end (results_none rfl _ _ _) rfl ?_
 refine⟨rfl,?_⟩;have:=HF.out;unfold BusN.put;rw[Nat.mod_eq_of_lt E];exact this
theorem eEB (a:Nat) (w:World) :
  Calls Tryz.prog 222 #[.agg #[],.int .u16 a] w fun e w'=>e=.returned (.int .u8 0)/\Below w.heap.size w w':=by
 go_enter Tryz.func222,Tryz.ntmps222;go_wp2;go_ret;exact⟨rfl,(Below.refl _ _).alloc (Nat.le_refl _) _⟩
theorem fEB (a d:Nat) (w:World) :
  Calls Tryz.prog 223 #[.agg #[],.int .u16 a,.int .u8 d] w fun e w'=>e=.returned (.tuple #[])/\Below w.heap.size w w':=by
 go_enter Tryz.func223,Tryz.ntmps223;go_wp2
 (try simp only[Exit.inBlock,Exit.then])
 first|refine bodyPost_ret (results_none rfl _ _ _) rfl ?_|refine bodyPost_end (results_none rfl _ _ _) rfl ?_
 exact⟨rfl,(Below.refl _ _).alloc (Nat.le_refl _) _⟩
abbrev busV:Option Nat->Value
 | some B=>.iface 186 (.pointer (some ⟨B,0,none⟩))
 | none=>.iface 185 (.agg #[])
abbrev busR:Option Nat->Value
 | some B=>.pointer (some ⟨B,0,none⟩)
 | none=>.agg #[]
abbrev readK:Option Nat->Nat
 | some _=>224
 | none=>222
abbrev dZA:Option Nat->Nat
 | some _=>225
 | none=>223
def BusO (w:World) (F:Nat->Prop):Option Nat->BusN->Prop
 | some B,b=>nCA w F B b/\ramN b.mem.length=true
 | none,b=>b.mem=[]
theorem BusO.byte {w:World} {F:Nat->Prop} {o:Option Nat} {b:BusN} (h:BusO w F o b) (a:Nat):b.get a < 256:=by
 rcases o with _|B
 ·have h:b.mem=[]:=h;unfold BusN.get;rw[h];simp
 ·exact h.1.byte a
theorem BusO.below {w w':World} {F:Nat->Prop} {o:Option Nat} {b:BusN} (h:BusO w F o b) (hb:Below w.heap.size w w'):BusO w' F o b:=by
 rcases o with _|B
 ·exact h
 ·exact⟨h.1.below hb,h.2⟩
theorem BusO.set {w:World} {F:Nat->Prop} {o:Option Nat} {b:BusN} (h:BusO w F o b) {n k:Nat} (v:Value) (hn:¬ F n):BusO (w.setCell ⟨n,k,none⟩ v) F o b:=by
 rcases o with _|B
 ·exact h
 ·exact⟨h.1.set v hn,h.2⟩
theorem fXA (F:Nat->Prop) (o:Option Nat) (b:BusN) (a:Nat) (E:a < 65536) (hl:b.log.length<=100) (w:World) (hF:∀ i,w.heap.size<=i->F i) (h:BusO w F o b) :
  Calls Tryz.prog (readK o) #[busR o,.int .u16 a] w fun e w'=>e=.returned (.int .u8 (b.get a))/\BusO w' F o (b.rd a)/\Turn F w w':=by
 rcases o with _|B
 ·have h:b.mem=[]:=h;refine (eEB a w).mono ?_;rintro e w' ⟨rfl,hb⟩;refine⟨?_,h,Turn.of_below hb⟩;unfold BusN.get;rw[h];rfl
 ·refine (tEB F B b a E ⟨h.2,hl⟩ w hF h.1).mono ?_;rintro e w' ⟨rfl,hb,ht⟩;exact⟨rfl,⟨hb,h.2⟩,ht⟩
theorem bUA (F:Nat->Prop) (o:Option Nat) (b:BusN) (a d:Nat) (E:a < 65536) (hd:d < 256) (hl:b.log.length<=100) (w:World) (hF:∀ i,w.heap.size<=i->F i) (h:BusO w F o b) :
  Calls Tryz.prog (dZA o) #[busR o,.int .u16 a,.int .u8 d] w fun e w'=>e=.returned (.tuple #[])/\BusO w' F o (b.put a d)/\Turn F w w':=by
 rcases o with _|B
 ·have h:b.mem=[]:=h;refine (fEB a d w).mono ?_;rintro e w' ⟨rfl,hb⟩;refine⟨rfl,?_,Turn.of_below hb⟩;show (b.put a d).mem=[];unfold BusN.put;simp[h]
 ·refine (uEB F B b a d E hd ⟨h.2,hl⟩ w hF h.1).mono ?_;rintro e w' ⟨rfl,hb,ht⟩;exact⟨rfl,⟨hb,by show ramN (b.put a d).mem.length=true;unfold BusN.put;simp[h.2]⟩,ht⟩
structure OpK where
 nm:ByteArray
 md:Int
 sz:Int
 kd:Int
abbrev xFA (c:CpuN) (o:Option Nat) (k:OpK):Array Value:=(cQ c [busV o,.string k.nm,.int .i64 k.md,.int .i64 k.sz,.int .i64 k.kd]).toArray
def But (F:Nat->Prop) (P:Nat):Nat->Prop:=fun i=>F i/\i≠P
structure hCA (W:World) (F:Nat->Prop) (P:Nat) (o:Option Nat) (k:OpK) (s:St):Prop where
 box:BoxN W P 182 (xFA s.c o k)
 bus:BusO W (But F P) o s.b
 own:F P
 ok:s.c.ok
structure Play (F:Nat->Prop) (w W:World) (P:Nat) (o:Option Nat) (k:OpK) (s:St) (N:Nat):Prop where
 pl:hCA W F P o k s
 turn:Turn F w W
 new:∀ i,w.heap.size<=i->F i
 len:s.b.log.length<=N
theorem Turn.less {F G:Nat->Prop} {a b:World} (h:Turn F a b) (hs:∀ i,i < a.heap.size->F i->G i):Turn G a b:=h.mono hs
theorem BusO.widen {w:World} {F G:Nat->Prop} {o:Option Nat} {b:BusN} (h:BusO w F o b) (hs:∀ i,i < w.heap.size->F i->G i):BusO w G o b:=by
 rcases o with _|B
 ·exact h
 ·exact⟨h.1.less hs,h.2⟩
theorem Play.start {F:Nat->Prop} {w:World} {P:Nat} {o:Option Nat} {k:OpK} {s:St} {N:Nat} (h:hCA w F P o k s) (hF:∀ i,w.heap.size<=i->F i) (hl:s.b.log.length<=N):Play F w w P o k s N:=
 ⟨h,Turn.refl _ _,hF,hl⟩
theorem Play.hF {F:Nat->Prop} {w W:World} {P:Nat} {o:Option Nat} {k:OpK} {s:St} {N:Nat} (p:Play F w W P o k s N):∀ i,W.heap.size<=i->F i:=fun i hi=>p.new i (Nat.le_trans p.turn.size hi)
theorem Play.hB {F:Nat->Prop} {w W:World} {P:Nat} {o:Option Nat} {k:OpK} {s:St} {N:Nat} (p:Play F w W P o k s N):∀ i,W.heap.size<=i->But F P i:=fun i hi=>⟨p.hF i hi,by have:=p.pl.box.lt;omega⟩
theorem Play.below {F:Nat->Prop} {w W W':World} {P:Nat} {o:Option Nat} {k:OpK} {s:St} {N:Nat} (p:Play F w W P o k s N) (h:Below W.heap.size W W'):Play F w W' P o k s N:=
 ⟨⟨p.pl.box.below h,p.pl.bus.below h,p.pl.own,p.pl.ok⟩,p.turn.trans (Turn.of_below h),p.new,p.len⟩
theorem Play.drew {F:Nat->Prop} {w W:World} {P:Nat} {o:Option Nat} {k:OpK} {s:St} {N:Nat} (p:Play F w W P o k s N):Play F w W.drew P o k s N:=p.below (Below.refl _ _).drew
theorem Play.mono {F:Nat->Prop} {w W:World} {P:Nat} {o:Option Nat} {k:OpK} {s:St} {N M:Nat} (p:Play F w W P o k s N) (h:N<=M):Play F w W P o k s M:=⟨p.pl,p.turn,p.new,Nat.le_trans p.len h⟩
theorem Play.call {F:Nat->Prop} {w W W':World} {P:Nat} {o:Option Nat} {k:OpK} {s s':St} {N M:Nat} (p:Play F w W P o k s N) (q:Play F W W' P o k s' M):Play F w W' P o k s' M:=
 ⟨q.pl,p.turn.trans q.turn,p.new,q.len⟩
theorem Play.store {F:Nat->Prop} {w W:World} {P:Nat} {o:Option Nat} {k:OpK} {s:St} {N:Nat} (p:Play F w W P o k s N) (i:Nat) (v:Value) (c':CpuN) (hc:(xFA s.c o k).setIfInBounds i v=xFA c' o k) (ok:c'.ok):Play F w (W.setCell ⟨P,i,none⟩ v) P o k ⟨c',s.b⟩ N:=by
 refine⟨⟨?_,p.pl.bus.set v (fun h=>h.2 rfl),p.pl.own,ok⟩,p.turn.trans (Turn.set _ _ _ _ p.pl.own),p.new,p.len⟩;have:=p.pl.box.set i v;rw[hc] at this;exact this
theorem Play.setA {F:Nat->Prop} {w W:World} {P:Nat} {o:Option Nat} {k:OpK} {s:St} {N:Nat} (p:Play F w W P o k s N) (v:Int) (x:Nat) (hv:v=(x:Int)) (hx:x < 256) {s':St} (hs:(⟨{ s.c with A:=x },s.b⟩:St)=s'):Play F w (W.setCell ⟨P,0,none⟩ (.int .u8 v)) P o k s' N:=by
 subst hv;subst hs;exact p.store 0 _ { s.c with A:=x } rfl ⟨hx,p.pl.ok.2⟩
theorem Play.setX {F:Nat->Prop} {w W:World} {P:Nat} {o:Option Nat} {k:OpK} {s:St} {N:Nat} (p:Play F w W P o k s N) (v:Int) (x:Nat) (hv:v=(x:Int)) (hx:x < 256) {s':St} (hs:(⟨{ s.c with X:=x },s.b⟩:St)=s'):Play F w (W.setCell ⟨P,1,none⟩ (.int .u8 v)) P o k s' N:=by
 subst hv;subst hs;exact p.store 1 _ { s.c with X:=x } rfl ⟨p.pl.ok.1,hx,p.pl.ok.2.2⟩
theorem Play.setY {F:Nat->Prop} {w W:World} {P:Nat} {o:Option Nat} {k:OpK} {s:St} {N:Nat} (p:Play F w W P o k s N) (v:Int) (x:Nat) (hv:v=(x:Int)) (hx:x < 256) {s':St} (hs:(⟨{ s.c with Y:=x },s.b⟩:St)=s'):Play F w (W.setCell ⟨P,2,none⟩ (.int .u8 v)) P o k s' N:=by
 subst hv;subst hs;exact p.store 2 _ { s.c with Y:=x } rfl ⟨p.pl.ok.1,p.pl.ok.2.1,hx,p.pl.ok.2.2.2⟩
theorem Play.setS {F:Nat->Prop} {w W:World} {P:Nat} {o:Option Nat} {k:OpK} {s:St} {N:Nat} (p:Play F w W P o k s N) (v:Int) (x:Nat) (hv:v=(x:Int)) (hx:x < 256) {s':St} (hs:(⟨{ s.c with S:=x },s.b⟩:St)=s'):Play F w (W.setCell ⟨P,3,none⟩ (.int .u8 v)) P o k s' N:=by
 subst hv;subst hs;exact p.store 3 _ { s.c with S:=x } rfl ⟨p.pl.ok.1,p.pl.ok.2.1,p.pl.ok.2.2.1,hx,p.pl.ok.2.2.2.2⟩
theorem Play.setPC {F:Nat->Prop} {w W:World} {P:Nat} {o:Option Nat} {k:OpK} {s:St} {N:Nat} (p:Play F w W P o k s N) (v:Int) (x:Nat) (hv:v=(x:Int)) (hx:x < 65536) {s':St} (hs:(⟨{ s.c with PC:=x },s.b⟩:St)=s'):Play F w (W.setCell ⟨P,4,none⟩ (.int .u16 v)) P o k s' N:=by
 subst hv;subst hs;exact p.store 4 _ { s.c with PC:=x } rfl ⟨p.pl.ok.1,p.pl.ok.2.1,p.pl.ok.2.2.1,p.pl.ok.2.2.2.1,hx⟩
theorem Play.flag {F:Nat->Prop} {w W:World} {P:Nat} {o:Option Nat} {k:OpK} {s:St} {N:Nat} (p:Play F w W P o k s N) (i:Nat) (x:Bool) (c':CpuN) (hc:(xFA s.c o k).setIfInBounds i (.bool x)=xFA c' o k) (h1:c'.A=s.c.A) (h2:c'.X=s.c.X) (h3:c'.Y=s.c.Y) (h4:c'.S=s.c.S) (h5:c'.PC=s.c.PC):Play F w (W.setCell ⟨P,i,none⟩ (.bool x)) P o k ⟨c',s.b⟩ N:=
 p.store i _ c' hc (by have:=p.pl.ok;unfold CpuN.ok at this ⊢;rw[h1,h2,h3,h4,h5];exact this)
theorem Play.flags {F:Nat->Prop} {w W:World} {P:Nat} {o:Option Nat} {k:OpK} {s:St} {N:Nat} (p:Play F w W P o k s N) (n v d i z c:Bool) {s':St} (hs:(⟨{ s.c with N:=n,V:=v,D:=d,I:=i,Z:=z,C:=c },s.b⟩:St)=s') :
  Play F w (((((((W.setCell ⟨P,5,none⟩ (.bool n)).setCell ⟨P,6,none⟩ (.bool v)).setCell ⟨P,7,none⟩ (.bool d)).setCell ⟨P,8,none⟩ (.bool i)).setCell ⟨P,9,none⟩ (.bool z)).setCell ⟨P,10,none⟩ (.bool c))) P o k s' N:=by
 subst hs;exact (((((p.flag 5 n { s.c with N:=n } rfl rfl rfl rfl rfl rfl).flag 6 v { s.c with N:=n,V:=v } rfl rfl rfl rfl rfl rfl).flag 7 d { s.c with N:=n,V:=v,D:=d } rfl rfl rfl rfl rfl rfl).flag 8 i { s.c with N:=n,V:=v,D:=d,I:=i } rfl rfl rfl rfl rfl rfl).flag 9 z { s.c with N:=n,V:=v,D:=d,I:=i,Z:=z } rfl rfl rfl rfl rfl rfl).flag 10 c _ rfl rfl rfl rfl rfl rfl
theorem Play.cells {F:Nat->Prop} {w W:World} {P:Nat} {o:Option Nat} {k:OpK} {s:St} {N:Nat} (p:Play F w W P o k s N) :
  W.cell? ⟨P,0,none⟩=some (.int .u8 (s.c.A:Int))/\W.cell? ⟨P,1,none⟩=some (.int .u8 (s.c.X:Int))/\W.cell? ⟨P,2,none⟩=some (.int .u8 (s.c.Y:Int))/\W.cell? ⟨P,3,none⟩=some (.int .u8 (s.c.S:Int))/\W.cell? ⟨P,4,none⟩=some (.int .u16 (s.c.PC:Int))/\W.cell? ⟨P,5,none⟩=some (.bool s.c.N)/\W.cell? ⟨P,6,none⟩=some (.bool s.c.V)/\W.cell? ⟨P,7,none⟩=some (.bool s.c.D)/\W.cell? ⟨P,8,none⟩=some (.bool s.c.I)/\W.cell? ⟨P,9,none⟩=some (.bool s.c.Z)/\W.cell? ⟨P,10,none⟩=some (.bool s.c.C)/\W.cell? ⟨P,11,none⟩=some (busV o)/\W.cell? ⟨P,12,none⟩=some (.string k.nm)/\W.cell? ⟨P,13,none⟩=some (.int .i64 k.md)/\W.cell? ⟨P,15,none⟩=some (.int .i64 k.kd)/\∀ i,W.frozen? ⟨P,i,none⟩=false:=
 have h:=p.pl.box
 ⟨h.cell 0 _ rfl,h.cell 1 _ rfl,h.cell 2 _ rfl,h.cell 3 _ rfl,h.cell 4 _ rfl,h.cell 5 _ rfl,h.cell 6 _ rfl,h.cell 7 _ rfl,h.cell 8 _ rfl,h.cell 9 _ rfl,h.cell 10 _ rfl,h.cell 11 _ rfl,h.cell 12 _ rfl,h.cell 13 _ rfl,h.cell 15 _ rfl,h.frozen⟩
theorem Play.byte {F:Nat->Prop} {w W:World} {P:Nat} {o:Option Nat} {k:OpK} {s:St} {N:Nat} (p:Play F w W P o k s N) (a:Nat):s.b.get a < 256:=p.pl.bus.byte a
theorem Play.read {F:Nat->Prop} {w W:World} {P:Nat} {o:Option Nat} {k:OpK} {s:St} {N:Nat} (p:Play F w W P o k s N) (x:Int) (a:Nat) (hx:x=(a:Int)) (E:a < 65536) (hN:N<=90) {z:Nat} {s':St} (hz:s.b.get a=z) (hs:(⟨s.c,s.b.rd a⟩:St)=s') :
  Calls Tryz.prog (readK o) #[busR o,.int .u16 x] W fun e w'=>e=.returned (.int .u8 (z:Int))/\Play F w w' P o k s' (N+1):=by
 subst hx;subst hz;subst hs;refine (fXA (But F P) o s.b a E (by have:=p.len;omega) W p.hB p.pl.bus).mono ?_;rintro e w' ⟨rfl,hb,ht⟩;exact⟨rfl,⟨p.pl.box.turn ht (fun h=>h.2 rfl),hb,p.pl.own,p.pl.ok⟩,p.turn.trans (ht.less (fun _ _ h=>h.1)),p.new,by have:=p.len;simp[BusN.rd];omega⟩
theorem Play.write {F:Nat->Prop} {w W:World} {P:Nat} {o:Option Nat} {k:OpK} {s:St} {N:Nat} (p:Play F w W P o k s N) (x y:Int) (a d:Nat) (hx:x=(a:Int)) (hy:y=(d:Int)) (E:a < 65536) (hd:d < 256) (hN:N<=90) {s':St} (hs:(⟨s.c,s.b.put a d⟩:St)=s') :
  Calls Tryz.prog (dZA o) #[busR o,.int .u16 x,.int .u8 y] W fun e w'=>e=.returned (.tuple #[])/\Play F w w' P o k s' (N+1):=by
 subst hx;subst hy;subst hs;refine (bUA (But F P) o s.b a d E hd (by have:=p.len;omega) W p.hB p.pl.bus).mono ?_;rintro e w' ⟨rfl,hb,ht⟩;exact⟨rfl,⟨p.pl.box.turn ht (fun h=>h.2 rfl),hb,p.pl.own,p.pl.ok⟩,p.turn.trans (ht.less (fun _ _ h=>h.1)),p.new,by have:=p.len;simp[BusN.put];omega⟩
theorem methR : (∀ w : World, (method 331 185 (.agg #[]) "loop.example/g00693/impl.read").run Tryz.prog w = .ok (222, .agg #[]) w) /\ (∀ (B : Nat) (w : World), (method 331 186 (.pointer (some ⟨B, 0, none⟩)) "loop.example/g00693/impl.read").run Tryz.prog w = .ok (224, .pointer (some ⟨B, 0, none⟩)) w) :=
 ⟨fun _=>gQ,fun _ _=>gQ⟩
theorem methW : (∀ w : World, (method 331 185 (.agg #[]) "loop.example/g00693/impl.write").run Tryz.prog w = .ok (223, .agg #[]) w) /\ (∀ (B : Nat) (w : World), (method 331 186 (.pointer (some ⟨B, 0, none⟩)) "loop.example/g00693/impl.write").run Tryz.prog w = .ok (225, .pointer (some ⟨B, 0, none⟩)) w) :=
 ⟨fun _=>gQ,fun _ _=>gQ⟩
theorem w16 (n:Int):IntKind.u16.wrap n=n % 65536:=vQg
theorem hi8 {x:Nat} (hx:x < 65536):x &&& 65280=x / 256*256:=by
 have e1:(65280:Nat)=(2 ^ 8 - 1)*2 ^ 8:=rfl;have e2:x / 256*256=(x / 2 ^ 8)*2 ^ 8:=rfl;rw[e1,e2];apply Nat.eq_of_testBit_eq;intro i;rw[Nat.testBit_and,Nat.testBit_mul_two_pow,Nat.testBit_mul_two_pow,Nat.testBit_two_pow_sub_one,Nat.testBit_div_two_pow];by_cases h:8<=i
 ·by_cases h2:i < 16
  ·have:i - 8 < 8:=dQ;simp[h,this,Nat.sub_add_cancel h]
  ·have:x.testBit i=false:=Nat.testBit_lt_two_pow (Nat.lt_of_lt_of_le hx (by have:=Nat.pow_le_pow_right (n:=2) dQ (show 16<=i by omega);simpa using this));simp[this,Nat.sub_add_cancel h]
 ·simp[h]
theorem or8 {x y:Nat}:x / 256*256 ||| y % 256=x / 256*256+y % 256:=by
 have:2 ^ 8*(x / 256)+y % 256=2 ^ 8*(x / 256) ||| y % 256:=Nat.two_pow_add_eq_or_of_lt dQ _;rw[show x / 256*256=2 ^ 8*(x / 256) by omega];exact this.symm
theorem bvN {x:Nat} (hx:x < 65536):(BitVec.ofInt 16 (x:Int)).toNat=x:=by rw[BitVec.toNat_ofInt];omega
theorem andHi {x:Nat} (hx:x < 65536):bits .and .u16 (x:Int) 65280=((x / 256*256:Nat):Int):=by
 have e2:(BitVec.ofInt 16 (65280:Int)).toNat=65280:=rfl;have key:(BitVec.ofInt 16 (x:Int) &&& BitVec.ofInt 16 65280).toNat=x / 256*256:=by rw[BitVec.toNat_and,bvN hx,e2,hi8 hx]
 show IntKind.u16.wrap ((BitVec.ofInt 16 (x:Int) &&& BitVec.ofInt 16 65280).toNat:Nat)=_;rw[key,w16];omega
theorem andLo {x:Nat} (hx:x < 65536):bits .and .u16 (x:Int) 255=((x % 256:Nat):Int):=by
 have e2:(BitVec.ofInt 16 (255:Int)).toNat=2 ^ 8 - 1:=rfl;have key:(BitVec.ofInt 16 (x:Int) &&& BitVec.ofInt 16 255).toNat=x % 256:=by rw[BitVec.toNat_and,bvN hx,e2,Nat.and_two_pow_sub_one_eq_mod]
 show IntKind.u16.wrap ((BitVec.ofInt 16 (x:Int) &&& BitVec.ofInt 16 255).toNat:Nat)=_;rw[key,w16];omega
theorem orIn {x y:Nat} (hx:x < 65536):bits .or .u16 ((x / 256*256:Nat):Int) ((y % 256:Nat):Int)=((rAA x y:Nat):Int):=by
 have key:(BitVec.ofInt 16 ((x / 256*256:Nat):Int) ||| BitVec.ofInt 16 ((y % 256:Nat):Int)).toNat=rAA x y:=by rw[BitVec.toNat_or,bvN dQ,bvN dQ,or8];rfl
 show IntKind.u16.wrap ((BitVec.ofInt 16 ((x / 256*256:Nat):Int) ||| BitVec.ofInt 16 ((y % 256:Nat):Int)).toNat:Nat)=_;rw[key,w16];unfold rAA;omega
theorem pCA (x y:Nat) (hx:x < 65536) (hy:y < 65536) {a:Nat} (E:rAA x y=a) (w:World) :
  Calls Tryz.prog 161 #[.int .u16 x,.int .u16 y] w fun e w'=>e=.returned (.int .u16 (a:Nat))/\w=w':=by
 have h1:=andHi hx;have h2:=orIn (y:=y) hx;rw[E] at h2;obtain⟨u,hu⟩:∃ r,((x / 256*256:Nat):Int)=r:=⟨_,rfl⟩;rw[hu] at h1 h2;have h3:=andLo hy;obtain⟨v,hv⟩:∃ r,((y % 256:Nat):Int)=r:=⟨_,rfl⟩;rw[hv] at h2 h3;clear hu hv;go_enter Tryz.func161,Tryz.ntmps161;go_wp2;go_ret;refine⟨?_,rfl⟩;first|rfl|exact congrArg (fun v=>Ending.returned (Value.int .u16 v)) h2
theorem gPA {x y:Nat} (hx:x < 256) (hy:y < 256):bits .or .u16 ((y:Int)*256) (x:Int)=((x+256*y:Nat):Int):=by
 have e1:(BitVec.ofInt 16 ((y:Int)*256)).toNat=2 ^ 8*y:=by rw[BitVec.toNat_ofInt];omega
 have e2:(BitVec.ofInt 16 (x:Int)).toNat=x:=by rw[BitVec.toNat_ofInt];omega
 have key:(BitVec.ofInt 16 ((y:Int)*256) ||| BitVec.ofInt 16 (x:Int)).toNat=2 ^ 8*y+x:=by
  rw[BitVec.toNat_or,e1,e2,Nat.two_pow_add_eq_or_of_lt dQ]
 show IntKind.u16.wrap ((BitVec.ofInt 16 ((y:Int)*256) ||| BitVec.ofInt 16 (x:Int)).toNat:Nat)=_;rw[key];simp only[IntKind.wrap,IntKind.bits,IntKind.signed];simp;omega
theorem tEA (x:Nat) (hx:x < 256) (w:World) :
  Calls Tryz.prog 159 #[.int .u8 x] w fun e w'=>e=.returned (.int .u16 (stk x:Nat))/\w=w':=by
 have hb:bits .or .u16 256 (x:Int)=((256+x:Nat):Int):=by
  have:=gPA (x:=x) (y:=1) hx dQ;simpa [Nat.add_comm] using this
 go_enter Tryz.func159,Tryz.ntmps159;go_wp2;go_ret;refine⟨?_,rfl⟩;unfold stk;rw[Nat.mod_eq_of_lt hx];exact congrArg (fun v=>Ending.returned (Value.int .u16 v)) dQ
theorem zFA (x y:Nat) (hx:x < 256) (hy:y < 256) {a:Nat} (E:word x y=a) (w:World) :
  Calls Tryz.prog 45 #[.int .u8 x,.int .u8 y] w fun e w'=>e=.returned (.int .u16 (a:Nat))/\w=w':=by
 subst E;go_enter Tryz.func45,Tryz.ntmps45;go_wp2;go_ret;exact⟨congrArg (fun v=>Ending.returned (Value.int .u16 v)) (gPA hx hy),rfl⟩
theorem Play.fetch {F:Nat->Prop} {w W:World} {P:Nat} {o:Option Nat} {k:OpK} {s:St} {N:Nat} (p:Play F w W P o k s N) (hN:N<=88) {z:Nat} {s':St} (hz:s.fetch.1=z) (hs:s.fetch.2=s') :
  Calls Tryz.prog 157 #[.pointer (some ⟨P,0,none⟩)] W fun e w'=>e=.returned (.int .u8 (z:Int))/\Play F w w' P o k s' (N+1):=by
 obtain⟨hA,hX,hY,hS,hP⟩:=p.pl.ok;have b0:s.b.get s.c.PC=z:=hz;obtain⟨b6,b7⟩:=methR;rcases o with _|B
 ·go_enter Tryz.func157,Tryz.ntmps157;obtain⟨g0,g1,g2,g3,g4,g5,g6,g7,g8,g9,g10,H,J,K,O,gf⟩:=p.cells;go_wp2_with fail;go_still_tail 11,gQ;change wpList _ _ _ _ _ W.drew;have R:=p.drew;clear g0 g1 g2 g3 g4 g5 g6 g7 g8 g9 g10 H J K O gf;generalize W.drew=W2 at R ⊢;go_wp2_with fail;refine (R.read _ _ rfl hP dQ b0 rfl).mono ?_;rintro e w3 ⟨rfl,p4⟩;clear R;obtain⟨g0,g1,g2,g3,g4,g5,g6,g7,g8,g9,g10,H,J,K,O,gf⟩:=p4.cells;go_wp2;go_ret;refine⟨rfl,?_⟩;exact p4.setPC _ ((s.c.PC+1) % 65536) lQg dQ hs
 ·go_enter Tryz.func157,Tryz.ntmps157;obtain⟨g0,g1,g2,g3,g4,g5,g6,g7,g8,g9,g10,H,J,K,O,gf⟩:=p.cells;go_wp2_with fail;go_still_tail 11,gQ;change wpList _ _ _ _ _ W.drew;have R:=p.drew;clear g0 g1 g2 g3 g4 g5 g6 g7 g8 g9 g10 H J K O gf;generalize W.drew=W2 at R ⊢;go_wp2_with fail;refine (R.read _ _ rfl hP dQ b0 rfl).mono ?_;rintro e w3 ⟨rfl,p4⟩;clear R;obtain⟨g0,g1,g2,g3,g4,g5,g6,g7,g8,g9,g10,H,J,K,O,gf⟩:=p4.cells;go_wp2;go_ret;refine⟨rfl,?_⟩;exact p4.setPC _ ((s.c.PC+1) % 65536) lQg dQ hs
theorem Play.idle {F:Nat->Prop} {w W:World} {P:Nat} {o:Option Nat} {k:OpK} {s:St} {N:Nat} (p:Play F w W P o k s N) (hN:N<=88) {s':St} (hs:s.idle=s') :
  Calls Tryz.prog 150 #[.pointer (some ⟨P,0,none⟩)] W fun e w'=>e=.returned (.tuple #[])/\Play F w w' P o k s' (N+1):=by
 obtain⟨hA,hX,hY,hS,hP⟩:=p.pl.ok;obtain⟨b6,b7⟩:=methR;rcases o with _|B
 ·go_enter Tryz.func150,Tryz.ntmps150;obtain⟨g0,g1,g2,g3,g4,g5,g6,g7,g8,g9,g10,H,J,K,O,gf⟩:=p.cells;go_wp2_with fail;go_still_tail 11,gQ;change wpList _ _ _ _ _ W.drew;have R:=p.drew;clear g0 g1 g2 g3 g4 g5 g6 g7 g8 g9 g10 H J K O gf;generalize W.drew=W2 at R ⊢;go_wp2_with fail;refine (R.read _ _ rfl hP dQ rfl hs).mono ?_;rintro e w3 ⟨rfl,p4⟩;clear R;go_wp2
  (try simp only[Exit.inBlock,Exit.then])
  first|refine bodyPost_ret (results_none rfl _ _ _) rfl ?_|refine bodyPost_end (results_none rfl _ _ _) rfl ?_
  refine⟨rfl,?_⟩;exact p4
 ·go_enter Tryz.func150,Tryz.ntmps150;obtain⟨g0,g1,g2,g3,g4,g5,g6,g7,g8,g9,g10,H,J,K,O,gf⟩:=p.cells;go_wp2_with fail;go_still_tail 11,gQ;change wpList _ _ _ _ _ W.drew;have R:=p.drew;clear g0 g1 g2 g3 g4 g5 g6 g7 g8 g9 g10 H J K O gf;generalize W.drew=W2 at R ⊢;go_wp2_with fail;refine (R.read _ _ rfl hP dQ rfl hs).mono ?_;rintro e w3 ⟨rfl,p4⟩;clear R;go_wp2
  (try simp only[Exit.inBlock,Exit.then])
  first|refine bodyPost_ret (results_none rfl _ _ _) rfl ?_|refine bodyPost_end (results_none rfl _ _ _) rfl ?_
  refine⟨rfl,?_⟩;exact p4

end Go.Proofs.YtckfdbjjjgfbfaaGreat
