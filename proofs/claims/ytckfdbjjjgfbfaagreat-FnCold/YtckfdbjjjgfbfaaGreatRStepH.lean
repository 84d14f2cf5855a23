import Derived.Test.YtckfdbjjjgfbfaaGreatRPhr
import Derived.Test.YtckfdbjjjgfbfaaGreatRStepG
import Derived.Test.YtckfdbjjjgfbfaaGreatROpC
import Derived.StillTailTactics
import Derived.Deep.Cut
import Derived.Deep.RegionWith
set_option linter.unusedVariables false
set_option linter.unusedSimpArgs false
set_option maxRecDepth 100000
set_option maxHeartbeats 2000000
namespace Go.Proofs.YtckfdbjjjgfbfaaGreat
open Go.RowKit
theorem bGA (E:Nat) (h:E < 256) {i:Nat} (hi:opId E=i) (w:World) :
  Calls Tryz.prog 78 #[.int .u8 E] w fun e w'=>e=.returned (.string (opTx i))/\Below w.heap.size w w':=by
 subst hi;exact jEA E h w
theorem aHA (E:Nat) (h:E < 256) {m:Int} (hm:hAA E=m) (w:World) :
  Calls Tryz.prog 82 #[.int .u8 E] w fun e w'=>e=.returned (.int .i64 m)/\Below w.heap.size w w':=by
 subst hm;exact gHA E h w
theorem dGA (E:Nat) (h:E < 256) {m:Int} (hm:eAA E=m) (w:World) :
  Calls Tryz.prog 80 #[.int .u8 E] w fun e w'=>e=.returned (.int .i64 m)/\Below w.heap.size w w':=by
 subst hm;exact pSA E h w
theorem vKA (E:Nat) (h:E < 256) {s:Nat} (hs:rAA E=(s:Int)) (w:World) :
  Calls Tryz.prog 100 #[.int .u8 E] w fun e w'=>e=.returned (.int .i64 (s:Nat))/\Below w.heap.size w w':=by
 rw[<-hs];exact sJA E h w
theorem dGB (c:CpuN) (l:List UInt8) (m:Nat):(useL c l m).PC=c.PC:=by
 simp only[useL,CpuN.nz,apply_ite CpuN.PC,ite_self]
theorem cCB (i:Nat) (hi:i ∈ [1,2,3,4,6,7,8,14,24,25,26,31]) (c:CpuN) (hc:c.ok) (m:Nat) (hm:m < 256) {u:CpuN} (hu:useL c (opTx i).toList m=u) (w:World) :
  Calls Tryz.prog 113 #[cpuV c,.string (opTx i),.int .u8 m] w fun e w'=>e=.returned (cpuV u)/\Below w.heap.size w w':=by
 subst hu;exact use_any i hi c hc m hm w
theorem mIB (i:Nat) (hi:i ∈ [5,13,23]) (c:CpuN) {x:Nat} (hx:nCA c (opTx i).toList=x) (w:World) :
  Calls Tryz.prog 115 #[cpuV c,.string (opTx i)] w fun e w'=>e=.returned (.int .u8 (x:Nat))/\Below w.heap.size w w':=by
 subst hx;exact oGB i hi c w
theorem sIB (i:Nat) (hi:i ∈ [9,10,11,12,15,16]) (c:CpuN) (m:Nat) (hm:m < 256) {x:Nat} {n z cc:Bool} (hx:chgB (opTx i).toList m c.C=x) (hn:(c.chg (opTx i).toList m).N=n) (hz:(c.chg (opTx i).toList m).Z=z) (j7:(c.chg (opTx i).toList m).C=cc) (w:World) :
  Calls Tryz.prog 108 #[.string (opTx i),.int .u8 m,.agg #[.bool c.N,.bool c.V,.bool c.D,.bool c.I,.bool c.Z,.bool c.C]] w fun e w'=>e=.returned (.tuple #[.int .u8 (x:Nat),.agg #[.bool n,.bool c.V,.bool c.D,.bool c.I,.bool z,.bool cc]])/\Below w.heap.size w w':=by
 subst hx;subst hn;subst hz;subst j7;exact vGB i hi c m hm w
theorem fNA (l:List UInt8) (m:Nat) (hm:m < 256) (cC:Bool):chgB l m cC < 256:=by
 have h1:=dCA (m:Int) true false dQ dQ;have h2:=dCA (m:Int) false false dQ dQ;have h3:=dCA (m:Int) true cC dQ dQ;have h4:=dCA (m:Int) false cC dQ dQ;unfold chgB;repeat' split
 all_goals omega
theorem nBB (c:CpuN) (hc:c.ok) (l:List UInt8):nCA c l < 256:=by
 obtain⟨h1,h2,h3,h4,h5⟩:=hc;unfold nCA;repeat' split
 all_goals omega
theorem wLA (F:Nat->Prop) (B:Nat) (b:BusN) (c:CpuN) (hc:c.ok) (m k:Int) (hm:m=3\/m=4\/m=5\/m=6\/m=7\/m=8\/m=10\/m=11) (hf:b.fit 20) (w:World) (hF:∀ i,w.heap.size<=i->F i) (h:BusAt w F B b) {r:Nat×BusN} (hr:kAA b c m k=r) :
  Calls Tryz.prog 114 #[.pointer (some ⟨B,0,none⟩),cpuV c,.int .i64 m,.int .i64 k] w fun e w'=>e=.returned (.int .i64 (r.1:Nat))/\BusAt w' F B r.2/\Turn F w w':=by
 subst hr;exact mXA F B b c hc m k hm hf w hF h
theorem cJA {b:BusN} {c:CpuN} {m k:Int} {j:Nat} (h:b.fit j):(kAA b c m k).2.fit (j+4):=by
 unfold kAA baseN;dsimp only;repeat' split
 all_goals
  first
  | exact (h.rd).mono dQ
  | exact (h.rd.rd).mono dQ
  | exact (h.rd.rd.rd).mono dQ
  | exact (h.rd.rd.rd.rd).mono dQ
theorem tJA {b:BusN} {c:CpuN} {m k:Int} (hb:∀ a,b.get a < 256):(kAA b c m k).1 < 65536:=by
 have e1:∀ x a,(b.rd x).get a=b.get a:=fun _ _=>rfl
 have e2:∀ x y a,((b.rd x).rd y).get a=b.get a:=fun _ _ _=>rfl
 have e3:∀ x y z a,(((b.rd x).rd y).rd z).get a=b.get a:=fun _ _ _ _=>rfl
 have w1:∀ a a',word (b.get a) (b.get a') < 65536:=fun a a'=>by have:=hb a;have:=hb a';unfold word;omega
 unfold kAA baseN;dsimp only;repeat' split
 all_goals
  simp only[e1,e2,e3];first
  | exact Nat.lt_trans (hb _) dQ
  | exact w1 _ _
  | omega
abbrev set11 (W:World) (B:Nat) (v0 v1 v2 v3 v4 v5 v6 v7 v8 v9 T:Value):World:=set6 (((((W.setCell ⟨B,0,none⟩ v0).setCell ⟨B,1,none⟩ v1).setCell ⟨B,2,none⟩ v2).setCell ⟨B,3,none⟩ v3).setCell ⟨B,4,none⟩ v4) B v5 v6 v7 v8 v9 T
theorem kFA {W:World} {B:Nat} {t:TypeId} {a0 a1 a2 a3 a4 a5 a6 a7 a8 a9 d7:Value} (h:BoxN W B t #[a0,a1,a2,a3,a4,a5,a6,a7,a8,a9,d7]) (v0 v1 v2 v3 v4 v5 v6 v7 v8 v9 T:Value):BoxN (set11 W B v0 v1 v2 v3 v4 v5 v6 v7 v8 v9 T) B t #[v0,v1,v2,v3,v4,v5,v6,v7,v8,v9,T]:=by
 have r:BoxN _ B t #[v0,a1,a2,a3,a4,a5,a6,a7,a8,a9,d7]:=h.set 0 v0;have r:BoxN _ B t #[v0,v1,a2,a3,a4,a5,a6,a7,a8,a9,d7]:=r.set 1 v1;have r:BoxN _ B t #[v0,v1,v2,a3,a4,a5,a6,a7,a8,a9,d7]:=r.set 2 v2;have r:BoxN _ B t #[v0,v1,v2,v3,a4,a5,a6,a7,a8,a9,d7]:=r.set 3 v3;have r:BoxN _ B t #[v0,v1,v2,v3,v4,a5,a6,a7,a8,a9,d7]:=r.set 4 v4;exact uMA r v5 v6 v7 v8 v9 T
theorem lCA {W:World} {B B':Nat} {t:TypeId} {cs:Array Value} (h:BoxN W B' t cs) (hn:B'≠B) (v0 v1 v2 v3 v4 v5 v6 v7 v8 v9 T:Value):BoxN (set11 W B v0 v1 v2 v3 v4 v5 v6 v7 v8 v9 T) B' t cs:=by
 have d:B' < B\/B+1<=B':=dQ;exact uJA (((((h.span (Span.set _ B 0 v0) d).span (Span.set _ B 1 v1) d).span (Span.set _ B 2 v2) d).span (Span.set _ B 3 v3) d).span (Span.set _ B 4 v4) d) hn v5 v6 v7 v8 v9 T
theorem Sit.eleven {F:Nat->Prop} {w W:World} {k B:Nat} {b:BusN} (s:Sit F w k B W b) {n:Nat} (v0 v1 v2 v3 v4 v5 v6 v7 v8 v9 T:Value) (h1:w.heap.size<=n) (h2:n < w.heap.size+k):Sit F w k B (set11 W n v0 v1 v2 v3 v4 v5 v6 v7 v8 v9 T) b:=
 (((((s.set v0 h1 h2).set v1 h1 h2).set v2 h1 h2).set v3 h1 h2).set v4 h1 h2).six v5 v6 v7 v8 v9 T h1 h2
theorem Sit.wrX {F:Nat->Prop} {w W:World} {k B:Nat} {b:BusN} (s:Sit F w k B W b) (t:TypeId) (cs:Array Value) (x y:Int) (a d:Nat) (hx:x=(a:Int)) (hy:y=(d:Int)) (ha:a < 200000) (hd:d < 256) (hf:b.fit 30) {b':BusN} (j5:b.put a d=b') :
  Calls Tryz.prog 103 #[.pointer (some ⟨B,0,none⟩),.int .i64 x,.int .u8 y] (W.alloc (.cells cs t)) fun e w'=>e=.returned (.tuple #[])/\Went F w k B (W.alloc (.cells cs t)) w' b'/\BoxN w' W.heap.size t cs:=by
 subst hx;subst hy;subst j5;refine (cAB (fun i=>Less F w.heap.size k i/\i≠W.heap.size) B b a d ha hd hf _ (fun i hi=>?_) ((s.bus.less (fun i hi hl=>⟨hl,dQ⟩)).alloc _)).mono ?_
 ·rw[World.size_alloc] at hi;exact⟨s.hF i dQ,dQ⟩
 ·rintro e w' ⟨rfl,hb,ht⟩;have s1:Sit F w k B (W.alloc (.cells cs t)) b:=s.below ((Below.refl _ _).alloc (Nat.le_refl _) _);exact⟨rfl,s1.went (hb.less (fun _ _ hl=>hl.1)) (ht.mono (fun _ _ hl=>hl.1)),(BoxN.new W t cs).turn ht (fun hl=>hl.2 rfl)⟩
theorem oBB (F:Nat->Prop) (B:Nat) (b:BusN) (c:CpuN) (hc:c.ok) (E:Nat) (H:E < 256) (i:Nat) (hid:opId E=i) (hi:i ∈ [1,2,3,4,6,7,8,14,24,25,26,31]) (m:Int) (hm:hAA E=m) (hmm:m=3\/m=4\/m=5\/m=6\/m=7\/m=8\/m=10\/m=11) (hk:eAA E=2) (sz:Nat) (b0:rAA E=(sz:Int)) (i7:sz<=3) (hf:b.fit 10) (w:World) (hF:∀ i,w.heap.size<=i->F i) (h:BusAt w F B b) :
  Calls Tryz.prog 84 #[.pointer (some ⟨B,0,none⟩),cpuV c,.int .u8 E] w fun e w'=>e=.returned (cpuV (dataN b c E).1)/\BusAt w' F B (dataN b c E).2/\Turn F w w':=by
 have e8:=hc;obtain⟨hA,hX,hY,hS,hP⟩:=hc;have hN:lAA E=opTx i:=yQg;obtain⟨p,hp⟩:∃ J,(c.PC+sz) % 65536=J:=⟨_,rfl⟩;have pb:p < 65536:=dQ;have HN:=hQ hN;have HM:=hQ hm;have HK:=hQ hk;have e0:=hQ b0;have HI:=hQ hid;have d9:(m==2)=false:=vQg;have b9:¬ m=2:=by simpa using d9
 obtain⟨r,hr⟩:∃ J,kAA b c m 2=J:=⟨_,rfl⟩;have Fr:r.2.fit 14:=by rw[<-hr];exact cJA hf
 have rb:r.1 < 65536:=cQi;obtain⟨e,he⟩:∃ J,r.1=J:=⟨_,rfl⟩;have eb:e < 65536:=dQ;obtain⟨z1,hz1⟩:∃ J,r.2.get e=J:=⟨_,rfl⟩;obtain⟨b1,hb1⟩:∃ J,r.2.rd e=J:=⟨_,rfl⟩;obtain⟨u,hu⟩:∃ J,useL ⟨c.A,c.X,c.Y,c.S,p,c.N,c.V,c.D,c.I,c.Z,c.C⟩ (opTx i).toList z1=J:=⟨_,rfl⟩;have HP:dataN b c E=(u,b1):=by
  simp[dataN,hN,hm,b9,hk,b0,hp,hr,he,hz1,hb1,hu]
 rw[HP];dsimp only;have S0:=Sit.two h hF (.cells (dAA c) 28) (.cells fAA 28);have q0:BoxN ((w.alloc (.cells (dAA c) 28)).alloc (.cells fAA 28)) w.heap.size 28 (dAA c):=(BoxN.new _ _ _).below ((Below.refl _ _).alloc (Nat.le_refl _) _);have y0:BoxN ((w.alloc (.cells (dAA c) 28)).alloc (.cells fAA 28)) (w.heap.size+1) 28 fAA:=by
  have:=BoxN.new (w.alloc (.cells (dAA c) 28)) 28 fAA
  rwa [World.size_alloc] at this
 have Hp:=hQ hp;have Hr:=hQ hr;have He:=hQ he;have Hz1:=hQ hz1;have Hb1:=hQ hb1;have Hu:=hQ hu;clear HP hp hr he hz1 hb1 hu;go_enter Tryz.func84,Tryz.ntmps84;clear hN hm hk b0 hid b9;go_wp2_with fail;refine (bGA E H HI.out _).mono ?_;rintro e w2 ⟨rfl,d1⟩;have q3:=q0.below d1;have S4:=S0.below d1;have y5:=y0.below d1;clear q0 S0 d1 y0;go_wp2_with fail;refine (aHA E H HM.out _).mono ?_;rintro e w7 ⟨rfl,d6⟩;have q8:=q3.below d6;have S9:=S4.below d6;have c0:=y5.below d6;clear q3 S4 d6 y5;go_wp2_with fail;refine (dGA E H HK.out _).mono ?_;rintro e i9 ⟨rfl,d11⟩;have d2:=q8.below d11;have c9:=S9.below d11;have c1:=c0.below d11;clear q8 S9 d11 c0;go_wp2_with fail;refine (vKA E H e0.out _).mono ?_;rintro e i6 ⟨rfl,d16⟩;have b4:=d2.below d16;have O:=c9.below d16;have b8:=c1.below d16;clear d2 c9 d16 c1;have Q:IntKind.u16.wrap ((c.PC:Int)+(sz:Int))=((p:Nat):Int):=qQe;have e4:=hQ Q;clear Q;obtain⟨g0,g1,g2,g3,g4,g5,g6,g7,g8,g9,g10,f0⟩:=eleven b4;go_wp2_with fail;refine (wLA _ B b c e8 m 2 hmm (hf.mono dQ) _ O.hF O.bus Hr.out).mono ?_;rintro e R ⟨rfl,hB_,hT_⟩;have K:=O.went hB_ hT_;have U:=K.box _ _ _ (Nat.le_refl _) dQ b4;have d0:=K.box _ _ _ dQ dQ b8;have c8:=K.sit;clear g0 g1 g2 g3 g4 g5 g6 g7 g8 g9 g10 f0;clear hB_ hT_ b4 O K b8;obtain⟨g0,g1,g2,g3,g4,g5,g6,g7,g8,g9,g10,f0⟩:=eleven U;have Q:=e4.out;have c7:=He.out;rw[c7];clear c7;have b6:BoxN (R.setCell ⟨w.heap.size,4,none⟩ (.int .u16 (p:Int))) w.heap.size 28 #[.int .u8 (c.A:Int),.int .u8 (c.X:Int),.int .u8 (c.Y:Int),.int .u8 (c.S:Int),.int .u16 (p:Int),.bool c.N,.bool c.V,.bool c.D,.bool c.I,.bool c.Z,.bool c.C]:=U.set 4 (.int .u16 (p:Int));have b5:Sit F w 2 B (R.setCell ⟨w.heap.size,4,none⟩ (.int .u16 (p:Int))) r.2:=c8.set (.int .u16 (p:Int)) (Nat.le_refl _) dQ;have b7:=d0.span (Span.set R w.heap.size 4 (.int .u16 (p:Int))) dQ;clear U c8 d0;go_wp2_with fail;clear g0 g1 g2 g3 g4 g5 g6 g7 g8 g9 g10 f0;generalize R.setCell ⟨w.heap.size,4,none⟩ (.int .u16 (p:Int))=wT at b6 b5 b7 ⊢;clear Q;have i3:z1 < 256:=by rw[<-Hz1.out];exact b5.bus.byte _
 obtain⟨g0,g1,g2,g3,g4,g5,g6,g7,g8,g9,g10,f0⟩:=eleven b6.drew;go_region_with (first|(go_at_call 76;refine (b5.drew.rd _ e rfl dQ (Fr.mono dQ) Hz1.out Hb1.out).mono ?_;rintro e' wR ⟨rfl,tR⟩;(have qR:=tR.box _ _ _ (Nat.le_refl _) dQ b6.drew);clear g0 g1 g2 g3 g4 g5 g6 g7 g8 g9 g10 f0;obtain⟨g0,g1,g2,g3,g4,g5,g6,g7,g8,g9,g10,f0⟩:=eleven qR)|(go_at_call 113;refine (cCB i hi ⟨c.A,c.X,c.Y,c.S,p,c.N,c.V,c.D,c.I,c.Z,c.C⟩ ⟨hA,hX,hY,hS,pb⟩ z1 i3 Hu.out _).mono ?_;rintro e' wU ⟨rfl,dU⟩;(have yU:=(tR.box _ _ _ dQ dQ b7.drew).below dU);clear g0 g1 g2 g3 g4 g5 g6 g7 g8 g9 g10 f0;obtain⟨h0,h1,h2,h3,h4,h5,h6,h7,h8,h9,h10,f1⟩:=eleven yU));all_goals
  have SU:=tR.sit.below dU;have HS:=hQ SU;clear SU tR dU qR yU b6 b5 b7;go_wp2;refine bodyPost_ret (v:=cpuV u) (by simp[results,Tryz.results84,go_sem,h0,h1,h2,h3,h4,h5,h6,h7,h8,h9,h10]) rfl ⟨rfl,?_⟩;refine Sit.out (k:=2) ?_;all_goals exact jQ
theorem dXA (F:Nat->Prop) (B:Nat) (b:BusN) (c:CpuN) (hc:c.ok) (E:Nat) (H:E < 256) (i:Nat) (hid:opId E=i) (hi:i ∈ [5,13,23]) (m:Int) (hm:hAA E=m) (hmm:m=3\/m=4\/m=5\/m=6\/m=7\/m=8\/m=10\/m=11) (hk:eAA E=3) (sz:Nat) (b0:rAA E=(sz:Int)) (i7:sz<=3) (hf:b.fit 10) (w:World) (hF:∀ i,w.heap.size<=i->F i) (h:BusAt w F B b) :
  Calls Tryz.prog 84 #[.pointer (some ⟨B,0,none⟩),cpuV c,.int .u8 E] w fun e w'=>e=.returned (cpuV (dataN b c E).1)/\BusAt w' F B (dataN b c E).2/\Turn F w w':=by
 have e8:=hc;obtain⟨hA,hX,hY,hS,hP⟩:=hc;have hN:lAA E=opTx i:=yQg;obtain⟨p,hp⟩:∃ J,(c.PC+sz) % 65536=J:=⟨_,rfl⟩;have pb:p < 65536:=dQ;have HN:=hQ hN;have HM:=hQ hm;have HK:=hQ hk;have e0:=hQ b0;have HI:=hQ hid;have d9:(m==2)=false:=vQg;have b9:¬ m=2:=by simpa using d9
 obtain⟨r,hr⟩:∃ J,kAA b c m 3=J:=⟨_,rfl⟩;have Fr:r.2.fit 14:=by rw[<-hr];exact cJA hf
 have rb:r.1 < 65536:=cQi;obtain⟨e,he⟩:∃ J,r.1=J:=⟨_,rfl⟩;have eb:e < 65536:=dQ;obtain⟨x,hx⟩:∃ J,nCA ⟨c.A,c.X,c.Y,c.S,p,c.N,c.V,c.D,c.I,c.Z,c.C⟩ (opTx i).toList=J:=⟨_,rfl⟩;have xb:x < 256:=by rw[<-hx];exact nBB ⟨c.A,c.X,c.Y,c.S,p,c.N,c.V,c.D,c.I,c.Z,c.C⟩ ⟨hA,hX,hY,hS,pb⟩ _
 obtain⟨b1,hb1⟩:∃ J,r.2.put (e) (x)=J:=⟨_,rfl⟩;have Fb1:b1.fit 15:=by rw[<-hb1];exact Fr.put
 have HP:dataN b c E=({ c with PC:=p },b1):=by
  simp[dataN,hN,hm,b9,hk,b0,hp,hr,he,hx,hb1]
 rw[HP];dsimp only;have S0:=Sit.two h hF (.cells (dAA c) 28) (.cells fAA 28);have q0:BoxN ((w.alloc (.cells (dAA c) 28)).alloc (.cells fAA 28)) w.heap.size 28 (dAA c):=(BoxN.new _ _ _).below ((Below.refl _ _).alloc (Nat.le_refl _) _);have y0:BoxN ((w.alloc (.cells (dAA c) 28)).alloc (.cells fAA 28)) (w.heap.size+1) 28 fAA:=by
  have:=BoxN.new (w.alloc (.cells (dAA c) 28)) 28 fAA
  rwa [World.size_alloc] at this
 have Hp:=hQ hp;have Hr:=hQ hr;have He:=hQ he;have Hx:=hQ hx;have Hb1:=hQ hb1;clear HP hp hr he hx hb1;go_enter Tryz.func84,Tryz.ntmps84;clear hN hm hk b0 hid b9;go_wp2_with fail;refine (bGA E H HI.out _).mono ?_;rintro e w2 ⟨rfl,d1⟩;have q3:=q0.below d1;have S4:=S0.below d1;have y5:=y0.below d1;clear q0 S0 d1 y0;go_wp2_with fail;refine (aHA E H HM.out _).mono ?_;rintro e w7 ⟨rfl,d6⟩;have q8:=q3.below d6;have S9:=S4.below d6;have c0:=y5.below d6;clear q3 S4 d6 y5;go_wp2_with fail;refine (dGA E H HK.out _).mono ?_;rintro e i9 ⟨rfl,d11⟩;have d2:=q8.below d11;have c9:=S9.below d11;have c1:=c0.below d11;clear q8 S9 d11 c0;go_wp2_with fail;refine (vKA E H e0.out _).mono ?_;rintro e i6 ⟨rfl,d16⟩;have b4:=d2.below d16;have O:=c9.below d16;have b8:=c1.below d16;clear d2 c9 d16 c1;have Q:IntKind.u16.wrap ((c.PC:Int)+(sz:Int))=((p:Nat):Int):=qQe;have e4:=hQ Q;clear Q;obtain⟨g0,g1,g2,g3,g4,g5,g6,g7,g8,g9,g10,f0⟩:=eleven b4;go_wp2_with fail;refine (wLA _ B b c e8 m 3 hmm (hf.mono dQ) _ O.hF O.bus Hr.out).mono ?_;rintro e R ⟨rfl,hB_,hT_⟩;have K:=O.went hB_ hT_;have U:=K.box _ _ _ (Nat.le_refl _) dQ b4;have d0:=K.box _ _ _ dQ dQ b8;have c8:=K.sit;clear g0 g1 g2 g3 g4 g5 g6 g7 g8 g9 g10 f0;clear hB_ hT_ b4 O K b8;obtain⟨g0,g1,g2,g3,g4,g5,g6,g7,g8,g9,g10,f0⟩:=eleven U;have Q:=e4.out;have c7:=He.out;rw[c7];clear c7;have b6:BoxN (R.setCell ⟨w.heap.size,4,none⟩ (.int .u16 (p:Int))) w.heap.size 28 #[.int .u8 (c.A:Int),.int .u8 (c.X:Int),.int .u8 (c.Y:Int),.int .u8 (c.S:Int),.int .u16 (p:Int),.bool c.N,.bool c.V,.bool c.D,.bool c.I,.bool c.Z,.bool c.C]:=U.set 4 (.int .u16 (p:Int));have b5:Sit F w 2 B (R.setCell ⟨w.heap.size,4,none⟩ (.int .u16 (p:Int))) r.2:=c8.set (.int .u16 (p:Int)) (Nat.le_refl _) dQ;have b7:=d0.span (Span.set R w.heap.size 4 (.int .u16 (p:Int))) dQ;clear U c8 d0;go_wp2_with fail;refine (mIB i hi ⟨c.A,c.X,c.Y,c.S,p,c.N,c.V,c.D,c.I,c.Z,c.C⟩ Hx.out _).mono ?_;rintro e j8 ⟨rfl,d29⟩;have d4:=b6.below d29;have e7:=b5.below d29;have e9:=b7.below d29;clear g0 g1 g2 g3 g4 g5 g6 g7 g8 g9 g10 f0;clear b6 b5 d29 b7;clear Q;go_wp2_with fail;refine (e7.wr _ _ (e) (x) rfl rfl dQ dQ (Fr.mono dQ) Hb1.out).mono ?_;rintro e j9 ⟨rfl,t34⟩;have d3:=t34.box _ _ _ (Nat.le_refl _) dQ d4;have d8:=t34.box _ _ _ dQ dQ e9;have e6:=t34.sit;clear d4 e7 t34 e9;obtain⟨g0,g1,g2,g3,g4,g5,g6,g7,g8,g9,g10,f0⟩:=eleven d3;obtain⟨h0,h1,h2,h3,h4,h5,h6,h7,h8,h9,h10,f1⟩:=eleven d8;have HS:=hQ e6;clear e6 d3 d8;go_wp2;refine bodyPost_ret (v:=cpuV ({ c with PC:=p })) (by simp[results,Tryz.results84,go_sem,g0,g1,g2,g3,g4,g5,g6,g7,g8,g9,g10,h0,h1,h2,h3,h4,h5,h6,h7,h8,h9,h10]) rfl ⟨rfl,?_⟩;refine Sit.out (k:=2) ?_;all_goals exact jQ
theorem tEB (F:Nat->Prop) (B:Nat) (b:BusN) (c:CpuN) (hc:c.ok) (E:Nat) (H:E < 256) (i:Nat) (hid:opId E=i) (hi:i ∈ [9,10,11,12,15,16]) (m:Int) (hm:hAA E=m) (hmm:m=3\/m=4\/m=5\/m=6\/m=7\/m=8\/m=10\/m=11) (hk:eAA E=4) (sz:Nat) (b0:rAA E=(sz:Int)) (i7:sz<=3) (hf:b.fit 10) (w:World) (hF:∀ i,w.heap.size<=i->F i) (h:BusAt w F B b) :
  Calls Tryz.prog 84 #[.pointer (some ⟨B,0,none⟩),cpuV c,.int .u8 E] w fun e w'=>e=.returned (cpuV (dataN b c E).1)/\BusAt w' F B (dataN b c E).2/\Turn F w w':=by
 have e8:=hc;obtain⟨hA,hX,hY,hS,hP⟩:=hc;have hN:lAA E=opTx i:=yQg;obtain⟨p,hp⟩:∃ J,(c.PC+sz) % 65536=J:=⟨_,rfl⟩;have pb:p < 65536:=dQ;have HN:=hQ hN;have HM:=hQ hm;have HK:=hQ hk;have e0:=hQ b0;have HI:=hQ hid;have d9:(m==2)=false:=vQg;have b9:¬ m=2:=by simpa using d9
 obtain⟨r,hr⟩:∃ J,kAA b c m 4=J:=⟨_,rfl⟩;have Fr:r.2.fit 14:=by rw[<-hr];exact cJA hf
 have rb:r.1 < 65536:=cQi;obtain⟨e,he⟩:∃ J,r.1=J:=⟨_,rfl⟩;have eb:e < 65536:=dQ;obtain⟨z1,hz1⟩:∃ J,r.2.get (e)=J:=⟨_,rfl⟩;obtain⟨b1,hb1⟩:∃ J,r.2.rd (e)=J:=⟨_,rfl⟩;have Fb1:b1.fit 15:=by rw[<-hb1];exact Fr.rd
 obtain⟨b2,hb2⟩:∃ J,b1.put (e) (z1)=J:=⟨_,rfl⟩;have Fb2:b2.fit 16:=by rw[<-hb2];exact Fb1.put
 obtain⟨x,hx⟩:∃ J,chgB (opTx i).toList z1 c.C=J:=⟨_,rfl⟩;obtain⟨fN,i0⟩:∃ J,(c.chg (opTx i).toList z1).N=J:=⟨_,rfl⟩;obtain⟨fZ,i2⟩:∃ J,(c.chg (opTx i).toList z1).Z=J:=⟨_,rfl⟩;obtain⟨fC,i1⟩:∃ J,(c.chg (opTx i).toList z1).C=J:=⟨_,rfl⟩;obtain⟨b3,hb3⟩:∃ J,b2.put e x=J:=⟨_,rfl⟩;have HP:dataN b c E=({ c with PC:=p,N:=fN,Z:=fZ,C:=fC },b3):=by
  have e1:(CpuN.chg ⟨c.A,c.X,c.Y,c.S,p,c.N,c.V,c.D,c.I,c.Z,c.C⟩ (opTx i).toList z1)=⟨c.A,c.X,c.Y,c.S,p,fN,c.V,c.D,c.I,fZ,fC⟩:=by rw[<-i0,<-i2,<-i1];rfl
  simp[dataN,hN,hm,b9,hk,b0,hp,hr,he,hz1,hb1,hb2,hx,i0,i2,i1,hb3,e1]
 rw[HP];dsimp only;have S0:=Sit.two h hF (.cells (dAA c) 28) (.cells fAA 28);have q0:BoxN ((w.alloc (.cells (dAA c) 28)).alloc (.cells fAA 28)) w.heap.size 28 (dAA c):=(BoxN.new _ _ _).below ((Below.refl _ _).alloc (Nat.le_refl _) _);have y0:BoxN ((w.alloc (.cells (dAA c) 28)).alloc (.cells fAA 28)) (w.heap.size+1) 28 fAA:=by
  have:=BoxN.new (w.alloc (.cells (dAA c) 28)) 28 fAA
  rwa [World.size_alloc] at this
 have Hp:=hQ hp;have Hr:=hQ hr;have He:=hQ he;have Hz1:=hQ hz1;have Hb1:=hQ hb1;have j4:=hQ hb2;have Hx:=hQ hx;have j3:=hQ i0;have j2:=hQ i2;have j1:=hQ i1;have j6:=hQ hb3;clear HP hp hr he hz1 hb1 hb2 hx i0 i2 i1 hb3;go_enter Tryz.func84,Tryz.ntmps84;clear hN hm hk b0 hid b9;go_wp2_with fail;refine (bGA E H HI.out _).mono ?_;rintro e w2 ⟨rfl,d1⟩;have q3:=q0.below d1;have S4:=S0.below d1;have y5:=y0.below d1;clear q0 S0 d1 y0;go_wp2_with fail;refine (aHA E H HM.out _).mono ?_;rintro e w7 ⟨rfl,d6⟩;have q8:=q3.below d6;have S9:=S4.below d6;have c0:=y5.below d6;clear q3 S4 d6 y5;go_wp2_with fail;refine (dGA E H HK.out _).mono ?_;rintro e i9 ⟨rfl,d11⟩;have d2:=q8.below d11;have c9:=S9.below d11;have c1:=c0.below d11;clear q8 S9 d11 c0;go_wp2_with fail;refine (vKA E H e0.out _).mono ?_;rintro e i6 ⟨rfl,d16⟩;have b4:=d2.below d16;have O:=c9.below d16;have b8:=c1.below d16;clear d2 c9 d16 c1;have Q:IntKind.u16.wrap ((c.PC:Int)+(sz:Int))=((p:Nat):Int):=qQe;have e4:=hQ Q;clear Q;obtain⟨g0,g1,g2,g3,g4,g5,g6,g7,g8,g9,g10,f0⟩:=eleven b4;go_wp2_with fail;refine (wLA _ B b c e8 m 4 hmm (hf.mono dQ) _ O.hF O.bus Hr.out).mono ?_;rintro e R ⟨rfl,hB_,hT_⟩;have K:=O.went hB_ hT_;have U:=K.box _ _ _ (Nat.le_refl _) dQ b4;have d0:=K.box _ _ _ dQ dQ b8;have c8:=K.sit;clear g0 g1 g2 g3 g4 g5 g6 g7 g8 g9 g10 f0;clear hB_ hT_ b4 O K b8;obtain⟨g0,g1,g2,g3,g4,g5,g6,g7,g8,g9,g10,f0⟩:=eleven U;have Q:=e4.out;have c7:=He.out;rw[c7];clear c7;have b6:BoxN (R.setCell ⟨w.heap.size,4,none⟩ (.int .u16 (p:Int))) w.heap.size 28 #[.int .u8 (c.A:Int),.int .u8 (c.X:Int),.int .u8 (c.Y:Int),.int .u8 (c.S:Int),.int .u16 (p:Int),.bool c.N,.bool c.V,.bool c.D,.bool c.I,.bool c.Z,.bool c.C]:=U.set 4 (.int .u16 (p:Int));have b5:Sit F w 2 B (R.setCell ⟨w.heap.size,4,none⟩ (.int .u16 (p:Int))) r.2:=c8.set (.int .u16 (p:Int)) (Nat.le_refl _) dQ;have b7:=d0.span (Span.set R w.heap.size 4 (.int .u16 (p:Int))) dQ;clear U c8 d0;go_wp2_with fail;refine (b5.rd _ (e) rfl dQ (Fr.mono dQ) Hz1.out Hb1.out).mono ?_;rintro e j8 ⟨rfl,t29⟩;have d4:=t29.box _ _ _ (Nat.le_refl _) dQ b6;have e9:=t29.box _ _ _ dQ dQ b7;have e7:=t29.sit;have i3:z1 < 256:=by rw[<-Hz1.out];exact b5.bus.byte _
 clear g0 g1 g2 g3 g4 g5 g6 g7 g8 g9 g10 f0;clear b6 b5 t29 b7;clear Q;obtain⟨g0,g1,g2,g3,g4,g5,g6,g7,g8,g9,g10,f0⟩:=eleven d4;go_wp2_with fail;refine (e7.wr _ _ (e) (z1) rfl rfl dQ dQ (Fb1.mono dQ) j4.out).mono ?_;rintro e j9 ⟨rfl,t34⟩;have d3:=t34.box _ _ _ (Nat.le_refl _) dQ d4;have d8:=t34.box _ _ _ dQ dQ e9;have e6:=t34.sit;clear g0 g1 g2 g3 g4 g5 g6 g7 g8 g9 g10 f0;clear d4 e7 t34 e9;obtain⟨g0,g1,g2,g3,g4,g5,g6,g7,g8,g9,g10,f0⟩:=eleven d3;go_wp2_with fail;refine (sIB i hi c z1 i3 Hx.out j3.out j2.out j1.out _).mono ?_;rintro e k6 ⟨rfl,d39⟩;have i4:=d3.below d39;have j0:=e6.below d39;have i5:=d8.below d39;clear g0 g1 g2 g3 g4 g5 g6 g7 g8 g9 g10 f0;clear d3 e6 d39 d8;have xb:x < 256:=by rw[<-Hx.out];exact fNA _ _ i3 _
 obtain⟨g0,g1,g2,g3,g4,g5,g6,g7,g8,g9,g10,f0⟩:=eleven i4;go_wp2_with fail;refine (j0.wrX 26 #[.bool fN,.bool c.V,.bool c.D,.bool c.I,.bool fZ,.bool fC] _ _ e x rfl rfl dQ xb (Fb2.mono dQ) j6.out).mono ?_;rintro e' wX ⟨rfl,tX,fX⟩;have qX:=tX.box _ _ _ (Nat.le_refl _) dQ (i4.below ((Below.refl _ _).alloc (Nat.le_refl _) _));have yX:=tX.box _ _ _ dQ dQ (i5.below ((Below.refl _ _).alloc (Nat.le_refl _) _));have SX:=tX.sit;clear g0 g1 g2 g3 g4 g5 g6 g7 g8 g9 g10 f0;clear tX i4 j0 i5;obtain⟨k0,k1,k2,k3,k4,k5,f2⟩:=six fX;clear fX;obtain⟨g0,g1,g2,g3,g4,g5,g6,g7,g8,g9,g10,f0⟩:=eleven qX;obtain⟨h0,h1,h2,h3,h4,h5,h6,h7,h8,h9,h10,f1⟩:=eleven yX;have HS:=hQ SX;clear SX qX yX;go_wp2;refine bodyPost_ret (v:=cpuV ({ c with PC:=p,N:=fN,Z:=fZ,C:=fC })) (by simp[results,Tryz.results84,go_sem,g0,g1,g2,g3,g4,g5,g6,g7,g8,g9,g10,h0,h1,h2,h3,h4,h5,h6,h7,h8,h9,h10,k0,k1,k2,k3,k4,k5]) rfl ⟨rfl,?_⟩;refine Sit.out (k:=2) ?_;all_goals exact jQ

end Go.Proofs.YtckfdbjjjgfbfaaGreat
