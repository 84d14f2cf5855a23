import Derived.Test.YtckfdbjjjgfbfaaGreatVStepG
import Derived.Test.YtckfdbjjjgfbfaaGreatVOpC
import Derived.Deep.Cut
set_option linter.unusedVariables false
set_option linter.unusedSimpArgs false
set_option maxRecDepth 100000
set_option maxHeartbeats 2000000
namespace Go.Proofs.YtckfdbjjjgfbfaaGreat
open Go.RowKit
theorem uFA (E:Nat) (h:E < 256) {i:Nat} (hi:opId E=i) (w:World) :
  Calls Tryz.prog 78 #[.int .u8 E] w fun e w'=>e=.returned (.string (opTx i))/\Below w.heap.size w w':=by
 subst hi;exact bEA E h w
theorem zGA (E:Nat) (h:E < 256) {m:Int} (hm:iAA E=m) (w:World) :
  Calls Tryz.prog 82 #[.int .u8 E] w fun e w'=>e=.returned (.int .i64 m)/\Below w.heap.size w w':=by
 subst hm;exact jHA E h w
theorem tFA (E:Nat) (h:E < 256) {m:Int} (hm:eAA E=m) (w:World) :
  Calls Tryz.prog 80 #[.int .u8 E] w fun e w'=>e=.returned (.int .i64 m)/\Below w.heap.size w w':=by
 subst hm;exact sJA E h w
theorem yJA (E:Nat) (h:E < 256) {s:Nat} (hs:sAA E=(s:Int)) (w:World) :
  Calls Tryz.prog 100 #[.int .u8 E] w fun e w'=>e=.returned (.int .i64 (s:Nat))/\Below w.heap.size w w':=by
 rw[<-hs];exact kHA E h w
theorem sEB (c:CpuN) (l:List UInt8) (m:Nat):(useL c l m).PC=c.PC:=by
 simp only[useL,CpuN.nz,apply_ite CpuN.PC,ite_self]
theorem zYA (i:Nat) (hi:i ∈ [1,2,3,4,6,7,8,14,24,25,26,31]) (c:CpuN) (hc:c.ok) (m:Nat) (hm:m < 256) {u:CpuN} (hu:useL c (opTx i).toList m=u) (w:World) :
  Calls Tryz.prog 113 #[cpuV c,.string (opTx i),.int .u8 m] w fun e w'=>e=.returned (cpuV u)/\Below w.heap.size w w':=by
 subst hu;exact use_any i hi c hc m hm w
theorem kGB (i:Nat) (hi:i ∈ [5,13,23]) (c:CpuN) {x:Nat} (hx:iCA c (opTx i).toList=x) (w:World) :
  Calls Tryz.prog 115 #[cpuV c,.string (opTx i)] w fun e w'=>e=.returned (.int .u8 (x:Nat))/\Below w.heap.size w w':=by
 subst hx;exact mEB i hi c w
theorem cFB (i:Nat) (hi:i ∈ [9,10,11,12,15,16]) (c:CpuN) (m:Nat) (hm:m < 256) {x:Nat} {n z cc:Bool} (hx:chgB (opTx i).toList m c.C=x) (hn:(c.chg (opTx i).toList m).N=n) (hz:(c.chg (opTx i).toList m).Z=z) (j7:(c.chg (opTx i).toList m).C=cc) (w:World) :
  Calls Tryz.prog 108 #[.string (opTx i),.int .u8 m,.agg #[.bool c.N,.bool c.V,.bool c.D,.bool c.I,.bool c.Z,.bool c.C]] w fun e w'=>e=.returned (.tuple #[.int .u8 (x:Nat),.agg #[.bool n,.bool c.V,.bool c.D,.bool c.I,.bool z,.bool cc]])/\Below w.heap.size w w':=by
 subst hx;subst hn;subst hz;subst j7;exact wCB i hi c m hm w
theorem rLA (l:List UInt8) (m:Nat) (hm:m < 256) (cC:Bool):chgB l m cC < 256:=by
 have h1:=zBA (m:Int) true false dQ dQ;have h2:=zBA (m:Int) false false dQ dQ;have h3:=zBA (m:Int) true cC dQ dQ;have h4:=zBA (m:Int) false cC dQ dQ;unfold chgB;repeat' split
 all_goals omega
theorem vYA (c:CpuN) (hc:c.ok) (l:List UInt8):iCA c l < 256:=by
 obtain⟨h1,h2,h3,h4,h5⟩:=hc;unfold iCA;repeat' split
 all_goals omega
theorem pKA (F:Nat->Prop) (B:Nat) (b:BusN) (c:CpuN) (hc:c.ok) (m k:Int) (hm:m=3\/m=4\/m=5\/m=6\/m=7\/m=8\/m=10\/m=11) (hf:b.fit 20) (w:World) (hF:∀ i,w.heap.size<=i->F i) (h:BusAt w F B b) {r:Nat×BusN} (hr:kAA b c m k=r) :
  Calls Tryz.prog 114 #[.pointer (some ⟨B,0,none⟩),cpuV c,.int .i64 m,.int .i64 k] w fun e w'=>e=.returned (.int .i64 (r.1:Nat))/\BusAt w' F B r.2/\Turn F w w':=by
 subst hr;exact yUA F B b c hc m k hm hf w hF h
theorem kIA {b:BusN} {c:CpuN} {m k:Int} {j:Nat} (h:b.fit j):(kAA b c m k).2.fit (j+4):=by
 unfold kAA baseN;dsimp only;repeat' split
 all_goals
  first
  | exact (h.rd).mono dQ
  | exact (h.rd.rd).mono dQ
  | exact (h.rd.rd.rd).mono dQ
  | exact (h.rd.rd.rd.rd).mono dQ
theorem oJA {b:BusN} {c:CpuN} {m k:Int} (hb:∀ a,b.get a < 256):(kAA b c m k).1 < 65536:=by
 have e1:∀ x a,(b.rd x).get a=b.get a:=fun _ _=>rfl
 have e2:∀ x y a,((b.rd x).rd y).get a=b.get a:=fun _ _ _=>rfl
 have e3:∀ x y z a,(((b.rd x).rd y).rd z).get a=b.get a:=fun _ _ _ _=>rfl
 have w1:∀ a a',word (b.get a) (b.get a') < 65536:=fun a a'=>by have:=hb a;have:=hb a';unfold word;omega
 unfold kAA baseN;dsimp only;repeat' split
 all_goals
  simp only[e1,e2,e3];first
  | exact Nat.lt_trans (hb _) dQ
  | exact w1 _ _
  | omega
abbrev set11 (W:World) (B:Nat) (v0 v1 v2 v3 v4 v5 v6 v7 v8 v9 b5:Value):World:=set6 (((((W.setCell ⟨B,0,none⟩ v0).setCell ⟨B,1,none⟩ v1).setCell ⟨B,2,none⟩ v2).setCell ⟨B,3,none⟩ v3).setCell ⟨B,4,none⟩ v4) B v5 v6 v7 v8 v9 b5
theorem fFA {W:World} {B:Nat} {t:TypeId} {a0 a1 a2 a3 a4 a5 a6 a7 a8 a9 d3:Value} (h:BoxN W B t #[a0,a1,a2,a3,a4,a5,a6,a7,a8,a9,d3]) (v0 v1 v2 v3 v4 v5 v6 v7 v8 v9 b5:Value):BoxN (set11 W B v0 v1 v2 v3 v4 v5 v6 v7 v8 v9 b5) B t #[v0,v1,v2,v3,v4,v5,v6,v7,v8,v9,b5]:=by
 have r:BoxN _ B t #[v0,a1,a2,a3,a4,a5,a6,a7,a8,a9,d3]:=h.set 0 v0;have r:BoxN _ B t #[v0,v1,a2,a3,a4,a5,a6,a7,a8,a9,d3]:=r.set 1 v1;have r:BoxN _ B t #[v0,v1,v2,a3,a4,a5,a6,a7,a8,a9,d3]:=r.set 2 v2;have r:BoxN _ B t #[v0,v1,v2,v3,a4,a5,a6,a7,a8,a9,d3]:=r.set 3 v3;have r:BoxN _ B t #[v0,v1,v2,v3,v4,a5,a6,a7,a8,a9,d3]:=r.set 4 v4;exact fMA r v5 v6 v7 v8 v9 b5
theorem eCA {W:World} {B B':Nat} {t:TypeId} {cs:Array Value} (h:BoxN W B' t cs) (hn:B'≠B) (v0 v1 v2 v3 v4 v5 v6 v7 v8 v9 b5:Value):BoxN (set11 W B v0 v1 v2 v3 v4 v5 v6 v7 v8 v9 b5) B' t cs:=by
 have d:B' < B\/B+1<=B':=dQ;exact rJA (((((h.span (Span.set _ B 0 v0) d).span (Span.set _ B 1 v1) d).span (Span.set _ B 2 v2) d).span (Span.set _ B 3 v3) d).span (Span.set _ B 4 v4) d) hn v5 v6 v7 v8 v9 b5
theorem Sit.eleven {F:Nat->Prop} {w W:World} {k B:Nat} {b:BusN} (s:Sit F w k B W b) {n:Nat} (v0 v1 v2 v3 v4 v5 v6 v7 v8 v9 b5:Value) (h1:w.heap.size<=n) (h2:n < w.heap.size+k):Sit F w k B (set11 W n v0 v1 v2 v3 v4 v5 v6 v7 v8 v9 b5) b:=
 (((((s.set v0 h1 h2).set v1 h1 h2).set v2 h1 h2).set v3 h1 h2).set v4 h1 h2).six v5 v6 v7 v8 v9 b5 h1 h2
theorem Sit.wrX {F:Nat->Prop} {w W:World} {k B:Nat} {b:BusN} (s:Sit F w k B W b) (t:TypeId) (cs:Array Value) (x y:Int) (a d:Nat) (hx:x=(a:Int)) (hy:y=(d:Int)) (ha:a < 200000) (hd:d < 256) (hf:b.fit 30) {b':BusN} (j6:b.put a d=b') :
  Calls Tryz.prog 103 #[.pointer (some ⟨B,0,none⟩),.int .i64 x,.int .u8 y] (W.alloc (.cells cs t)) fun e w'=>e=.returned (.tuple #[])/\Went F w k B (W.alloc (.cells cs t)) w' b'/\BoxN w' W.heap.size t cs:=by
 subst hx;subst hy;subst j6;refine (cZA (fun i=>Less F w.heap.size k i/\i≠W.heap.size) B b a d ha hd hf _ (fun i hi=>?_) ((s.bus.less (fun i hi hl=>⟨hl,dQ⟩)).alloc _)).mono ?_
 ·rw[World.size_alloc] at hi;exact⟨s.hF i dQ,dQ⟩
 ·rintro e w' ⟨rfl,hb,ht⟩;have s1:Sit F w k B (W.alloc (.cells cs t)) b:=s.below ((Below.refl _ _).alloc (Nat.le_refl _) _);exact⟨rfl,s1.went (hb.less (fun _ _ hl=>hl.1)) (ht.mono (fun _ _ hl=>hl.1)),(BoxN.new W t cs).turn ht (fun hl=>hl.2 rfl)⟩
theorem iXA (F:Nat->Prop) (B:Nat) (b:BusN) (c:CpuN) (hc:c.ok) (E:Nat) (H:E < 256) (i:Nat) (hid:opId E=i) (hi:i ∈ [1,2,3,4,6,7,8,14,24,25,26,31]) (m:Int) (hm:iAA E=m) (hmm:m=3\/m=4\/m=5\/m=6\/m=7\/m=8\/m=10\/m=11) (hk:eAA E=2) (sz:Nat) (U:sAA E=(sz:Int)) (i6:sz<=3) (hf:b.fit 10) (w:World) (hF:∀ i,w.heap.size<=i->F i) (h:BusAt w F B b) :
  Calls Tryz.prog 84 #[.pointer (some ⟨B,0,none⟩),cpuV c,.int .u8 E] w fun e w'=>e=.returned (cpuV (dataN b c E).1)/\BusAt w' F B (dataN b c E).2/\Turn F w w':=by
 have e6:=hc;obtain⟨hA,hX,hY,hS,hP⟩:=hc;have hN:lAA E=opTx i:=qQg;obtain⟨p,hp⟩:∃ J,(c.PC+sz) % 65536=J:=⟨_,rfl⟩;have pb:p < 65536:=dQ;have HN:=j_ hN;have HM:=j_ hm;have HK:=j_ hk;have d8:=j_ U;have HI:=j_ hid;have e7:(m==2)=false:=oQg;have c1:¬ m=2:=by simpa using e7
 obtain⟨r,hr⟩:∃ J,kAA b c m 2=J:=⟨_,rfl⟩;have Fr:r.2.fit 14:=by rw[<-hr];exact kIA hf
 have rb:r.1 < 65536:=cQi;obtain⟨e,he⟩:∃ J,r.1=J:=⟨_,rfl⟩;have eb:e < 65536:=dQ;obtain⟨z1,hz1⟩:∃ J,r.2.get e=J:=⟨_,rfl⟩;obtain⟨b1,hb1⟩:∃ J,r.2.rd e=J:=⟨_,rfl⟩;obtain⟨u,hu⟩:∃ J,useL ⟨c.A,c.X,c.Y,c.S,p,c.N,c.V,c.D,c.I,c.Z,c.C⟩ (opTx i).toList z1=J:=⟨_,rfl⟩;have HP:dataN b c E=(u,b1):=by
  simp[dataN,hN,hm,c1,hk,U,hp,hr,he,hz1,hb1,hu]
 rw[HP];dsimp only;have S0:=Sit.two h hF (.cells (dAA c) 28) (.cells gAA 28);have q0:BoxN ((w.alloc (.cells (dAA c) 28)).alloc (.cells gAA 28)) w.heap.size 28 (dAA c):=(BoxN.new _ _ _).below ((Below.refl _ _).alloc (Nat.le_refl _) _);have y0:BoxN ((w.alloc (.cells (dAA c) 28)).alloc (.cells gAA 28)) (w.heap.size+1) 28 gAA:=by
  have:=BoxN.new (w.alloc (.cells (dAA c) 28)) 28 gAA
  rwa [World.size_alloc] at this
 have Hp:=j_ hp;have Hr:=j_ hr;have He:=j_ he;have Hz1:=j_ hz1;have Hb1:=j_ hb1;have Hu:=j_ hu;clear HP hp hr he hz1 hb1 hu;go_enter Tryz.func84,Tryz.ntmps84;clear hN hm hk U hid c1;go_wp2_with fail;refine (uFA E H HI.out _).mono ?_;rintro e w2 ⟨rfl,d1⟩;have q3:=q0.below d1;have S4:=S0.below d1;have y5:=y0.below d1;clear q0 S0 d1 y0;go_wp2_with fail;refine (zGA E H HM.out _).mono ?_;rintro e w7 ⟨rfl,d6⟩;have q8:=q3.below d6;have S9:=S4.below d6;have c8:=y5.below d6;clear q3 S4 d6 y5;go_wp2_with fail;refine (tFA E H HK.out _).mono ?_;rintro e i7 ⟨rfl,d11⟩;have c7:=q8.below d11;have b8:=S9.below d11;have c9:=c8.below d11;clear q8 S9 d11 c8;go_wp2_with fail;refine (yJA E H d8.out _).mono ?_;rintro e i9 ⟨rfl,d16⟩;have b0:=c7.below d16;have K:=b8.below d16;have d0:=c9.below d16;clear c7 b8 d16 c9;have O:IntKind.u16.wrap ((c.PC:Int)+(sz:Int))=((p:Nat):Int):=qQe;have d9:=j_ O;clear O;obtain⟨g0,g1,g2,g3,g4,g5,g6,g7,g8,g9,g10,f0⟩:=eleven b0;go_wp2_with fail;refine (pKA _ B b c e6 m 2 hmm (hf.mono dQ) _ K.hF K.bus Hr.out).mono ?_;rintro e R ⟨rfl,hB_,hT_⟩;have Q:=K.went hB_ hT_;have b4:=Q.box _ _ _ (Nat.le_refl _) dQ b0;have d2:=Q.box _ _ _ dQ dQ d0;have b9:=Q.sit;clear g0 g1 g2 g3 g4 g5 g6 g7 g8 g9 g10 f0;clear hB_ hT_ b0 K Q d0;obtain⟨g0,g1,g2,g3,g4,g5,g6,g7,g8,g9,g10,f0⟩:=eleven b4;have O:=d9.out;have c0:=He.out;rw[c0];clear c0;have b6:BoxN (R.setCell ⟨w.heap.size,4,none⟩ (.int .u16 (p:Int))) w.heap.size 28 #[.int .u8 (c.A:Int),.int .u8 (c.X:Int),.int .u8 (c.Y:Int),.int .u8 (c.S:Int),.int .u16 (p:Int),.bool c.N,.bool c.V,.bool c.D,.bool c.I,.bool c.Z,.bool c.C]:=b4.set 4 (.int .u16 (p:Int));have T:Sit F w 2 B (R.setCell ⟨w.heap.size,4,none⟩ (.int .u16 (p:Int))) r.2:=b9.set (.int .u16 (p:Int)) (Nat.le_refl _) dQ;have b7:=d2.span (Span.set R w.heap.size 4 (.int .u16 (p:Int))) dQ;clear b4 b9 d2;go_wp2_with fail;clear g0 g1 g2 g3 g4 g5 g6 g7 g8 g9 g10 f0;generalize R.setCell ⟨w.heap.size,4,none⟩ (.int .u16 (p:Int))=wT at b6 T b7 ⊢;clear O;have i3:z1 < 256:=by rw[<-Hz1.out];exact T.bus.byte _
 obtain⟨g0,g1,g2,g3,g4,g5,g6,g7,g8,g9,g10,f0⟩:=eleven b6.drew;go_region_with (first|(go_at_call 76;refine (T.drew.rd _ e rfl dQ (Fr.mono dQ) Hz1.out Hb1.out).mono ?_;rintro e' wR ⟨rfl,tR⟩;(have qR:=tR.box _ _ _ (Nat.le_refl _) dQ b6.drew);clear g0 g1 g2 g3 g4 g5 g6 g7 g8 g9 g10 f0;obtain⟨g0,g1,g2,g3,g4,g5,g6,g7,g8,g9,g10,f0⟩:=eleven qR)|(go_at_call 113;refine (zYA i hi ⟨c.A,c.X,c.Y,c.S,p,c.N,c.V,c.D,c.I,c.Z,c.C⟩ ⟨hA,hX,hY,hS,pb⟩ z1 i3 Hu.out _).mono ?_;rintro e' wU ⟨rfl,dU⟩;(have yU:=(tR.box _ _ _ dQ dQ b7.drew).below dU);clear g0 g1 g2 g3 g4 g5 g6 g7 g8 g9 g10 f0;obtain⟨h0,h1,h2,h3,h4,h5,h6,h7,h8,h9,h10,f1⟩:=eleven yU));all_goals
  have SU:=tR.sit.below dU;have HS:=j_ SU;clear SU tR dU qR yU b6 T b7;go_wp2;refine bodyPost_ret (v:=cpuV u) (by simp[results,Tryz.results84,go_sem,h0,h1,h2,h3,h4,h5,h6,h7,h8,h9,h10]) rfl ⟨rfl,?_⟩;refine Sit.out (k:=2) ?_;all_goals exact jQ
theorem eUA (F:Nat->Prop) (B:Nat) (b:BusN) (c:CpuN) (hc:c.ok) (E:Nat) (H:E < 256) (i:Nat) (hid:opId E=i) (hi:i ∈ [5,13,23]) (m:Int) (hm:iAA E=m) (hmm:m=3\/m=4\/m=5\/m=6\/m=7\/m=8\/m=10\/m=11) (hk:eAA E=3) (sz:Nat) (U:sAA E=(sz:Int)) (i6:sz<=3) (hf:b.fit 10) (w:World) (hF:∀ i,w.heap.size<=i->F i) (h:BusAt w F B b) :
  Calls Tryz.prog 84 #[.pointer (some ⟨B,0,none⟩),cpuV c,.int .u8 E] w fun e w'=>e=.returned (cpuV (dataN b c E).1)/\BusAt w' F B (dataN b c E).2/\Turn F w w':=by
 have e6:=hc;obtain⟨hA,hX,hY,hS,hP⟩:=hc;have hN:lAA E=opTx i:=qQg;obtain⟨p,hp⟩:∃ J,(c.PC+sz) % 65536=J:=⟨_,rfl⟩;have pb:p < 65536:=dQ;have HN:=j_ hN;have HM:=j_ hm;have HK:=j_ hk;have d8:=j_ U;have HI:=j_ hid;have e7:(m==2)=false:=oQg;have c1:¬ m=2:=by simpa using e7
 obtain⟨r,hr⟩:∃ J,kAA b c m 3=J:=⟨_,rfl⟩;have Fr:r.2.fit 14:=by rw[<-hr];exact kIA hf
 have rb:r.1 < 65536:=cQi;obtain⟨e,he⟩:∃ J,r.1=J:=⟨_,rfl⟩;have eb:e < 65536:=dQ;obtain⟨x,hx⟩:∃ J,iCA ⟨c.A,c.X,c.Y,c.S,p,c.N,c.V,c.D,c.I,c.Z,c.C⟩ (opTx i).toList=J:=⟨_,rfl⟩;have xb:x < 256:=by rw[<-hx];exact vYA ⟨c.A,c.X,c.Y,c.S,p,c.N,c.V,c.D,c.I,c.Z,c.C⟩ ⟨hA,hX,hY,hS,pb⟩ _
 obtain⟨b1,hb1⟩:∃ J,r.2.put (e) (x)=J:=⟨_,rfl⟩;have Fb1:b1.fit 15:=by rw[<-hb1];exact Fr.put
 have HP:dataN b c E=({ c with PC:=p },b1):=by
  simp[dataN,hN,hm,c1,hk,U,hp,hr,he,hx,hb1]
 rw[HP];dsimp only;have S0:=Sit.two h hF (.cells (dAA c) 28) (.cells gAA 28);have q0:BoxN ((w.alloc (.cells (dAA c) 28)).alloc (.cells gAA 28)) w.heap.size 28 (dAA c):=(BoxN.new _ _ _).below ((Below.refl _ _).alloc (Nat.le_refl _) _);have y0:BoxN ((w.alloc (.cells (dAA c) 28)).alloc (.cells gAA 28)) (w.heap.size+1) 28 gAA:=by
  have:=BoxN.new (w.alloc (.cells (dAA c) 28)) 28 gAA
  rwa [World.size_alloc] at this
 have Hp:=j_ hp;have Hr:=j_ hr;have He:=j_ he;have Hx:=j_ hx;have Hb1:=j_ hb1;clear HP hp hr he hx hb1;go_enter Tryz.func84,Tryz.ntmps84;clear hN hm hk U hid c1;go_wp2_with fail;refine (uFA E H HI.out _).mono ?_;rintro e w2 ⟨rfl,d1⟩;have q3:=q0.below d1;have S4:=S0.below d1;have y5:=y0.below d1;clear q0 S0 d1 y0;go_wp2_with fail;refine (zGA E H HM.out _).mono ?_;rintro e w7 ⟨rfl,d6⟩;have q8:=q3.below d6;have S9:=S4.below d6;have c8:=y5.below d6;clear q3 S4 d6 y5;go_wp2_with fail;refine (tFA E H HK.out _).mono ?_;rintro e i7 ⟨rfl,d11⟩;have c7:=q8.below d11;have b8:=S9.below d11;have c9:=c8.below d11;clear q8 S9 d11 c8;go_wp2_with fail;refine (yJA E H d8.out _).mono ?_;rintro e i9 ⟨rfl,d16⟩;have b0:=c7.below d16;have K:=b8.below d16;have d0:=c9.below d16;clear c7 b8 d16 c9;have O:IntKind.u16.wrap ((c.PC:Int)+(sz:Int))=((p:Nat):Int):=qQe;have d9:=j_ O;clear O;obtain⟨g0,g1,g2,g3,g4,g5,g6,g7,g8,g9,g10,f0⟩:=eleven b0;go_wp2_with fail;refine (pKA _ B b c e6 m 3 hmm (hf.mono dQ) _ K.hF K.bus Hr.out).mono ?_;rintro e R ⟨rfl,hB_,hT_⟩;have Q:=K.went hB_ hT_;have b4:=Q.box _ _ _ (Nat.le_refl _) dQ b0;have d2:=Q.box _ _ _ dQ dQ d0;have b9:=Q.sit;clear g0 g1 g2 g3 g4 g5 g6 g7 g8 g9 g10 f0;clear hB_ hT_ b0 K Q d0;obtain⟨g0,g1,g2,g3,g4,g5,g6,g7,g8,g9,g10,f0⟩:=eleven b4;have O:=d9.out;have c0:=He.out;rw[c0];clear c0;have b6:BoxN (R.setCell ⟨w.heap.size,4,none⟩ (.int .u16 (p:Int))) w.heap.size 28 #[.int .u8 (c.A:Int),.int .u8 (c.X:Int),.int .u8 (c.Y:Int),.int .u8 (c.S:Int),.int .u16 (p:Int),.bool c.N,.bool c.V,.bool c.D,.bool c.I,.bool c.Z,.bool c.C]:=b4.set 4 (.int .u16 (p:Int));have T:Sit F w 2 B (R.setCell ⟨w.heap.size,4,none⟩ (.int .u16 (p:Int))) r.2:=b9.set (.int .u16 (p:Int)) (Nat.le_refl _) dQ;have b7:=d2.span (Span.set R w.heap.size 4 (.int .u16 (p:Int))) dQ;clear b4 b9 d2;go_wp2_with fail;refine (kGB i hi ⟨c.A,c.X,c.Y,c.S,p,c.N,c.V,c.D,c.I,c.Z,c.C⟩ Hx.out _).mono ?_;rintro e j8 ⟨rfl,d29⟩;have d4:=b6.below d29;have e0:=T.below d29;have e8:=b7.below d29;clear g0 g1 g2 g3 g4 g5 g6 g7 g8 g9 g10 f0;clear b6 T d29 b7;clear O;go_wp2_with fail;refine (e0.wr _ _ (e) (x) rfl rfl dQ dQ (Fr.mono dQ) Hb1.out).mono ?_;rintro e j9 ⟨rfl,t34⟩;have d7:=t34.box _ _ _ (Nat.le_refl _) dQ d4;have e9:=t34.box _ _ _ dQ dQ e8;have e4:=t34.sit;clear d4 e0 t34 e8;obtain⟨g0,g1,g2,g3,g4,g5,g6,g7,g8,g9,g10,f0⟩:=eleven d7;obtain⟨h0,h1,h2,h3,h4,h5,h6,h7,h8,h9,h10,f1⟩:=eleven e9;have HS:=j_ e4;clear e4 d7 e9;go_wp2;refine bodyPost_ret (v:=cpuV ({ c with PC:=p })) (by simp[results,Tryz.results84,go_sem,g0,g1,g2,g3,g4,g5,g6,g7,g8,g9,g10,h0,h1,h2,h3,h4,h5,h6,h7,h8,h9,h10]) rfl ⟨rfl,?_⟩;refine Sit.out (k:=2) ?_;all_goals exact jQ
theorem pZA (F:Nat->Prop) (B:Nat) (b:BusN) (c:CpuN) (hc:c.ok) (E:Nat) (H:E < 256) (i:Nat) (hid:opId E=i) (hi:i ∈ [9,10,11,12,15,16]) (m:Int) (hm:iAA E=m) (hmm:m=3\/m=4\/m=5\/m=6\/m=7\/m=8\/m=10\/m=11) (hk:eAA E=4) (sz:Nat) (U:sAA E=(sz:Int)) (i6:sz<=3) (hf:b.fit 10) (w:World) (hF:∀ i,w.heap.size<=i->F i) (h:BusAt w F B b) :
  Calls Tryz.prog 84 #[.pointer (some ⟨B,0,none⟩),cpuV c,.int .u8 E] w fun e w'=>e=.returned (cpuV (dataN b c E).1)/\BusAt w' F B (dataN b c E).2/\Turn F w w':=by
 have e6:=hc;obtain⟨hA,hX,hY,hS,hP⟩:=hc;have hN:lAA E=opTx i:=qQg;obtain⟨p,hp⟩:∃ J,(c.PC+sz) % 65536=J:=⟨_,rfl⟩;have pb:p < 65536:=dQ;have HN:=j_ hN;have HM:=j_ hm;have HK:=j_ hk;have d8:=j_ U;have HI:=j_ hid;have e7:(m==2)=false:=oQg;have c1:¬ m=2:=by simpa using e7
 obtain⟨r,hr⟩:∃ J,kAA b c m 4=J:=⟨_,rfl⟩;have Fr:r.2.fit 14:=by rw[<-hr];exact kIA hf
 have rb:r.1 < 65536:=cQi;obtain⟨e,he⟩:∃ J,r.1=J:=⟨_,rfl⟩;have eb:e < 65536:=dQ;obtain⟨z1,hz1⟩:∃ J,r.2.get (e)=J:=⟨_,rfl⟩;obtain⟨b1,hb1⟩:∃ J,r.2.rd (e)=J:=⟨_,rfl⟩;have Fb1:b1.fit 15:=by rw[<-hb1];exact Fr.rd
 obtain⟨b2,hb2⟩:∃ J,b1.put (e) (z1)=J:=⟨_,rfl⟩;have Fb2:b2.fit 16:=by rw[<-hb2];exact Fb1.put
 obtain⟨x,hx⟩:∃ J,chgB (opTx i).toList z1 c.C=J:=⟨_,rfl⟩;obtain⟨fN,i1⟩:∃ J,(c.chg (opTx i).toList z1).N=J:=⟨_,rfl⟩;obtain⟨fZ,i2⟩:∃ J,(c.chg (opTx i).toList z1).Z=J:=⟨_,rfl⟩;obtain⟨fC,i0⟩:∃ J,(c.chg (opTx i).toList z1).C=J:=⟨_,rfl⟩;obtain⟨b3,hb3⟩:∃ J,b2.put e x=J:=⟨_,rfl⟩;have HP:dataN b c E=({ c with PC:=p,N:=fN,Z:=fZ,C:=fC },b3):=by
  have e1:(CpuN.chg ⟨c.A,c.X,c.Y,c.S,p,c.N,c.V,c.D,c.I,c.Z,c.C⟩ (opTx i).toList z1)=⟨c.A,c.X,c.Y,c.S,p,fN,c.V,c.D,c.I,fZ,fC⟩:=by rw[<-i1,<-i2,<-i0];rfl
  simp[dataN,hN,hm,c1,hk,U,hp,hr,he,hz1,hb1,hb2,hx,i1,i2,i0,hb3,e1]
 rw[HP];dsimp only;have S0:=Sit.two h hF (.cells (dAA c) 28) (.cells gAA 28);have q0:BoxN ((w.alloc (.cells (dAA c) 28)).alloc (.cells gAA 28)) w.heap.size 28 (dAA c):=(BoxN.new _ _ _).below ((Below.refl _ _).alloc (Nat.le_refl _) _);have y0:BoxN ((w.alloc (.cells (dAA c) 28)).alloc (.cells gAA 28)) (w.heap.size+1) 28 gAA:=by
  have:=BoxN.new (w.alloc (.cells (dAA c) 28)) 28 gAA
  rwa [World.size_alloc] at this
 have Hp:=j_ hp;have Hr:=j_ hr;have He:=j_ he;have Hz1:=j_ hz1;have Hb1:=j_ hb1;have j1:=j_ hb2;have Hx:=j_ hx;have j4:=j_ i1;have j5:=j_ i2;have j3:=j_ i0;have j2:=j_ hb3;clear HP hp hr he hz1 hb1 hb2 hx i1 i2 i0 hb3;go_enter Tryz.func84,Tryz.ntmps84;clear hN hm hk U hid c1;go_wp2_with fail;refine (uFA E H HI.out _).mono ?_;rintro e w2 ⟨rfl,d1⟩;have q3:=q0.below d1;have S4:=S0.below d1;have y5:=y0.below d1;clear q0 S0 d1 y0;go_wp2_with fail;refine (zGA E H HM.out _).mono ?_;rintro e w7 ⟨rfl,d6⟩;have q8:=q3.below d6;have S9:=S4.below d6;have c8:=y5.below d6;clear q3 S4 d6 y5;go_wp2_with fail;refine (tFA E H HK.out _).mono ?_;rintro e i7 ⟨rfl,d11⟩;have c7:=q8.below d11;have b8:=S9.below d11;have c9:=c8.below d11;clear q8 S9 d11 c8;go_wp2_with fail;refine (yJA E H d8.out _).mono ?_;rintro e i9 ⟨rfl,d16⟩;have b0:=c7.below d16;have K:=b8.below d16;have d0:=c9.below d16;clear c7 b8 d16 c9;have O:IntKind.u16.wrap ((c.PC:Int)+(sz:Int))=((p:Nat):Int):=qQe;have d9:=j_ O;clear O;obtain⟨g0,g1,g2,g3,g4,g5,g6,g7,g8,g9,g10,f0⟩:=eleven b0;go_wp2_with fail;refine (pKA _ B b c e6 m 4 hmm (hf.mono dQ) _ K.hF K.bus Hr.out).mono ?_;rintro e R ⟨rfl,hB_,hT_⟩;have Q:=K.went hB_ hT_;have b4:=Q.box _ _ _ (Nat.le_refl _) dQ b0;have d2:=Q.box _ _ _ dQ dQ d0;have b9:=Q.sit;clear g0 g1 g2 g3 g4 g5 g6 g7 g8 g9 g10 f0;clear hB_ hT_ b0 K Q d0;obtain⟨g0,g1,g2,g3,g4,g5,g6,g7,g8,g9,g10,f0⟩:=eleven b4;have O:=d9.out;have c0:=He.out;rw[c0];clear c0;have b6:BoxN (R.setCell ⟨w.heap.size,4,none⟩ (.int .u16 (p:Int))) w.heap.size 28 #[.int .u8 (c.A:Int),.int .u8 (c.X:Int),.int .u8 (c.Y:Int),.int .u8 (c.S:Int),.int .u16 (p:Int),.bool c.N,.bool c.V,.bool c.D,.bool c.I,.bool c.Z,.bool c.C]:=b4.set 4 (.int .u16 (p:Int));have T:Sit F w 2 B (R.setCell ⟨w.heap.size,4,none⟩ (.int .u16 (p:Int))) r.2:=b9.set (.int .u16 (p:Int)) (Nat.le_refl _) dQ;have b7:=d2.span (Span.set R w.heap.size 4 (.int .u16 (p:Int))) dQ;clear b4 b9 d2;go_wp2_with fail;refine (T.rd _ (e) rfl dQ (Fr.mono dQ) Hz1.out Hb1.out).mono ?_;rintro e j8 ⟨rfl,t29⟩;have d4:=t29.box _ _ _ (Nat.le_refl _) dQ b6;have e8:=t29.box _ _ _ dQ dQ b7;have e0:=t29.sit;have i3:z1 < 256:=by rw[<-Hz1.out];exact T.bus.byte _
 clear g0 g1 g2 g3 g4 g5 g6 g7 g8 g9 g10 f0;clear b6 T t29 b7;clear O;obtain⟨g0,g1,g2,g3,g4,g5,g6,g7,g8,g9,g10,f0⟩:=eleven d4;go_wp2_with fail;refine (e0.wr _ _ (e) (z1) rfl rfl dQ dQ (Fb1.mono dQ) j1.out).mono ?_;rintro e j9 ⟨rfl,t34⟩;have d7:=t34.box _ _ _ (Nat.le_refl _) dQ d4;have e9:=t34.box _ _ _ dQ dQ e8;have e4:=t34.sit;clear g0 g1 g2 g3 g4 g5 g6 g7 g8 g9 g10 f0;clear d4 e0 t34 e8;obtain⟨g0,g1,g2,g3,g4,g5,g6,g7,g8,g9,g10,f0⟩:=eleven d7;go_wp2_with fail;refine (cFB i hi c z1 i3 Hx.out j4.out j5.out j3.out _).mono ?_;rintro e k6 ⟨rfl,d39⟩;have i4:=d7.below d39;have i5:=e4.below d39;have j0:=e9.below d39;clear g0 g1 g2 g3 g4 g5 g6 g7 g8 g9 g10 f0;clear d7 e4 d39 e9;have xb:x < 256:=by rw[<-Hx.out];exact rLA _ _ i3 _
 obtain⟨g0,g1,g2,g3,g4,g5,g6,g7,g8,g9,g10,f0⟩:=eleven i4;go_wp2_with fail;refine (i5.wrX 26 #[.bool fN,.bool c.V,.bool c.D,.bool c.I,.bool fZ,.bool fC] _ _ e x rfl rfl dQ xb (Fb2.mono dQ) j2.out).mono ?_;rintro e' wX ⟨rfl,tX,fX⟩;have qX:=tX.box _ _ _ (Nat.le_refl _) dQ (i4.below ((Below.refl _ _).alloc (Nat.le_refl _) _));have yX:=tX.box _ _ _ dQ dQ (j0.below ((Below.refl _ _).alloc (Nat.le_refl _) _));have SX:=tX.sit;clear g0 g1 g2 g3 g4 g5 g6 g7 g8 g9 g10 f0;clear tX i4 i5 j0;obtain⟨k0,k1,k2,k3,k4,k5,f2⟩:=six fX;clear fX;obtain⟨g0,g1,g2,g3,g4,g5,g6,g7,g8,g9,g10,f0⟩:=eleven qX;obtain⟨h0,h1,h2,h3,h4,h5,h6,h7,h8,h9,h10,f1⟩:=eleven yX;have HS:=j_ SX;clear SX qX yX;go_wp2;refine bodyPost_ret (v:=cpuV ({ c with PC:=p,N:=fN,Z:=fZ,C:=fC })) (by simp[results,Tryz.results84,go_sem,g0,g1,g2,g3,g4,g5,g6,g7,g8,g9,g10,h0,h1,h2,h3,h4,h5,h6,h7,h8,h9,h10,k0,k1,k2,k3,k4,k5]) rfl ⟨rfl,?_⟩;refine Sit.out (k:=2) ?_;all_goals exact jQ

end Go.Proofs.YtckfdbjjjgfbfaaGreat
