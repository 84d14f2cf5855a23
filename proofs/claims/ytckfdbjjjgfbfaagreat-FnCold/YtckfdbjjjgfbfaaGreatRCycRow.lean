import Derived.Test.YtckfdbjjjgfbfaaGreatRPhr
import Derived.Test.YtckfdbjjjgfbfaaGreatRStepK
import Derived.Test.YtckfdbjjjgfbfaaGreatRStepD
import Derived.Deep.RegionHeld3
import Derived.StillTailTactics
set_option linter.unusedVariables false
set_option linter.unusedSimpArgs false
set_option maxRecDepth 100000
set_option maxHeartbeats 2000000
namespace Go.Proofs.YtckfdbjjjgfbfaaGreat
open Go.RowKit
theorem wEB (c:CpuN) (nmi:Bool) (a:Option Addr) (cap:Nat) (L:List Nat) (h:ramN L.length=false) (w:World) :
  Calls Tryz.prog 42 #[cpuV c,ramV (.slice a L.length cap),.bool nmi] w (uAA w (cpu0,⟨[],[]⟩)):=by
 have O:=fun w=>qBA a L.length cap w
 rw[h] at O;clear h;go_enter Tryz.func42,Tryz.ntmps42;go_wp2_with fail;refine (O _).mono ?_;rintro e Q ⟨rfl,d1⟩;obtain⟨q0,r0,y0,x0,E,z0⟩:=qCA d1;obtain⟨h0,h1,h2,h3,h4,h5,h6,h7,h8,h9,h10,f1⟩:=eleven y0;have x0c:=x0.cell 0 _ rfl;have fx:=fun k=>x0.frozen k
 have n0:=y0.lt;have n1:=x0.lt;have B0:=hQ E;clear d1 q0 r0 y0 x0 E O;go_wp2;refine bodyPost_ret (v:=.tuple #[cpuV cpu0,ramV (.slice none 0 0),.slice (some ⟨Q.heap.size,0,none⟩) 0 0]) (by simp[results,Tryz.results42,go_sem,h0,h1,h2,h3,h4,h5,h6,h7,h8,h9,h10,x0c,cpu0,n0,n1]) rfl ⟨_,_,rfl,zDA _ _,?_,fun k ek=>tQa,?_⟩
 ·have:=bNA (((set11 Q (w.heap.size+1+1) (.int .u8 0) (.int .u8 0) (.int .u8 0) (.int .u8 0) (.int .u16 0) (.bool false) (.bool false) (.bool false) (.bool false) (.bool false) (.bool false)).setCell ⟨w.heap.size+1+1+1,0,none⟩ (.slice none 0 0))) (base:=w.heap.size) qQ;simpa using this
 ·have hW:=B0.out;all_goals exact aQ
theorem dAB (c:CpuN) (hc:c.ok) (nmi:Bool) (g o cap:Nat) (L:List Nat) (h:ramN L.length=true) (w:World) (hr:RowB w (some ⟨g,o,none⟩) L) :
  Calls Tryz.prog 42 #[cpuV c,ramV (.slice (some ⟨g,o,none⟩) L.length cap),.bool nmi] w (uAA w (uFA ⟨L,[]⟩ c nmi)):=by
 have d9:=hc;obtain⟨hA,hX,hY,hS,hP⟩:=hc;have O:=fun w=>qBA (some ⟨g,o,none⟩) L.length cap w
 rw[h] at O;have hn:=eBA h;have e7:g < w.heap.size:=by
  obtain⟨g',o',e,i2,_⟩:=hr.2 dQ;simp only[Option.some.injEq,Addr.mk.injEq] at e;omega
 obtain⟨i0,hi,hz0,hz1,c7⟩:=info_parts xFA;obtain⟨z,T⟩:∃ R,uFA ⟨L,[]⟩ c nmi=R:=⟨_,rfl⟩;have HRES:=hQ T;rw[T];have HH:=hQ h;have HR:=hQ hr;clear h hr T;go_enter Tryz.func42,Tryz.ntmps42;go_wp2_with fail;refine (O _).mono ?_;rintro e Q ⟨rfl,d1⟩;obtain⟨q0,r0,y0,x0,E,z0⟩:=qCA d1;have e0:=(r0.below ((Below.refl _ Q).alloc (Nat.le_refl _) (.cells #[] 5))).cell 0 _ rfl;have HN:=hQ (RowB.below (RowB.below HR.out E) ((Below.refl _ Q).alloc (Nat.le_refl _) (.cells #[] 5)));have a9:=yFA (base:=Q.heap.size) Q rfl (Nat.le_refl _);clear d1 O;go_wp2_with (at_builtin;refine wpList_append_own _ rfl _ _ 22 rfl Q.heap.size 5 i0 (.int .u8 0) 1 1 Tryz.underlying22 hi hz0 hz1 c7 rfl iQ _ _ _ rfl a9 ⟨g,o,none⟩ L.length cap (L.map u8V) rfl xQ (jFA HN.out) (oFA L) ?c3 ?c4 ?c5 ?_)
 case c3=>unfold maxLen;first|omega|(simp;omega)
 case c4=>first|omega|(simp;omega)
 case c5=>first|omega|(simp;done)|(simp;omega)
 intro v' w4 hown' hgrow _;have W:OwnB w4 Q.heap.size v' L:=⟨HR.out.1,tQh⟩;obtain⟨g4,c4,rfl,_⟩:=W.cells dQ;have d2:=((World.ownsRow.lt W.2) g4 rfl).1;have b4:Below w.heap.size w w4:=(E.alloc dQ _).grown hgrow qQ (fun j ej=>mQd);have kp:∀ j t cs,j < w.heap.size+4->BoxN Q j t cs->BoxN w4 j t cs:=fun j t cs hj hb=>by
  have hb2:=hb.below ((Below.refl _ Q).alloc (Nat.le_refl _) (.cells #[] 5));exact (hgrow.block j hb2.lt pQe).trans hb2
 have S0:=Sit.start b4 dQb W dQ;have al:Below w4.heap.size w4 (w4.alloc (.cells #[.slice (some ⟨g4,0,none⟩) L.length c4,.slice none 0 0] 121)):=(Below.refl _ _).alloc (Nat.le_refl _) _;have q1:=(kp _ _ _ dQ q0).below al;have r1:=(kp _ _ _ dQ r0).below al;have y1:=(kp _ _ _ dQ y0).below al;have x1:=(kp _ _ _ dQ x0).below al;have c9:=hQ (RowB.below HR.out (b4.alloc b4.size (.cells #[.slice (some ⟨g4,0,none⟩) L.length c4,.slice none 0 0] 121)));have a6:=(BoxN.new w4 121 #[.slice (some ⟨g4,0,none⟩) L.length c4,.slice none 0 0]).lt;have c8:w.heap.size+4<=w4.heap.size:=dQb;clear hown' hgrow W d2 kp al q0 r0 y0 x0 E z0 e0 HN a9 b4 HR;obtain⟨B,hB⟩:∃ R,w4.heap.size=R:=⟨_,rfl⟩;rw[hB] at S0 a6 c8;obtain⟨za,b7⟩:∃ R,(⟨L,[]⟩:BusN).get c.PC=R:=⟨_,rfl⟩;obtain⟨b1,hb1⟩:∃ R,(⟨L,[]⟩:BusN).rd c.PC=R:=⟨_,rfl⟩;obtain⟨zc,b5⟩:∃ R,b1.get c.PC=R:=⟨_,rfl⟩;obtain⟨b2,hb2⟩:∃ R,b1.rd c.PC=R:=⟨_,rfl⟩;have F0:(⟨L,[]⟩:BusN).fit 0:=⟨HH.out,xQ⟩;have F1:b1.fit 1:=fQi;have F2:b2.fit 2:=by rw[<-hb2];exact F1.rd
 have er:pushN b2 c c.PC false (if nmi then 65530 else 65534)=z:=by rw[<-HRES.out];unfold uFA;rw[hb1,hb2]
 have Hr:=hQ er;have d4:=hQ b7;have Hb1:=hQ hb1;have d8:=hQ b5;have d0:=hQ hb2;clear er b7 hb1 b5 hb2 HRES r1 c9 a6;obtain⟨g0,g1,g2,g3,g4,g5,g6,g7,g8,g9,g10,f0⟩:=eleven q1;go_wp2_with fail;refine (S0.rd _ c.PC rfl dQ (F0.mono dQ) d4.out Hb1.out).mono ?_;rintro e w7 ⟨rfl,t7⟩;clear g0 g1 g2 g3 g4 g5 g6 g7 g8 g9 g10 f0;have q3:=t7.box _ _ _ (Nat.le_refl _) dQ q1;have y3:=t7.box _ _ _ dQ dQ y1;have x3:=t7.box _ _ _ dQ dQ x1;have S3:=t7.sit;clear t7 q1 y1 x1 S0 F0;obtain⟨g0,g1,g2,g3,g4,g5,g6,g7,g8,g9,g10,f0⟩:=eleven q3;go_wp2_with fail;refine (S3.rd _ c.PC rfl dQ (F1.mono dQ) d8.out d0.out).mono ?_;rintro e w8 ⟨rfl,t8⟩;clear g0 g1 g2 g3 g4 g5 g6 g7 g8 g9 g10 f0;have q4:=t8.box _ _ _ (Nat.le_refl _) dQ q3;have y4:=t8.box _ _ _ dQ dQ y3;have x4:=t8.box _ _ _ dQ dQ x3;have S4:=t8.sit;clear t8 q3 y3 x3 S3 F1;obtain⟨g0,g1,g2,g3,g4,g5,g6,g7,g8,g9,g10,f0⟩:=eleven q4;cases nmi;all_goals
  go_wp2_with fail;refine (iWA _ B b2 c d9 c.PC hP false _ ?_ (F2.mono dQ) _ S4.hF S4.bus _ _ rfl ?_ Hr.out).mono ?_
  ·simp
  ·simp
  rintro e wI ⟨rfl,hB_,hT_⟩;have tB:=S4.went hB_ hT_;have qC:=tB.box _ _ _ (Nat.le_refl _) dQ q4;have yC:=tB.box _ _ _ dQ dQ y4;have xC:=tB.box _ _ _ dQ dQ x4;have SC:=tB.sit;clear g0 g1 g2 g3 g4 g5 g6 g7 g8 g9 g10 f0;clear q4 y4 x4 S4 tB hB_ hT_;obtain⟨g0,g1,g2,g3,g4,g5,g6,g7,g8,g9,g10,f0⟩:=eleven qC;go_upto_region 10 with (fail)
  clear g0 g1 g2 g3 g4 g5 g6 g7 g8 g9 g10 f0;have qN:BoxN (((((((((((wI.setCell ⟨w.heap.size,0,none⟩ (.int .u8 (z.1.A:Int))).setCell ⟨w.heap.size,1,none⟩ (.int .u8 (z.1.X:Int))).setCell ⟨w.heap.size,2,none⟩ (.int .u8 (z.1.Y:Int))).setCell ⟨w.heap.size,3,none⟩ (.int .u8 (z.1.S:Int))).setCell ⟨w.heap.size,4,none⟩ (.int .u16 (z.1.PC:Int))).setCell ⟨w.heap.size,5,none⟩ (.bool z.1.N)).setCell ⟨w.heap.size,6,none⟩ (.bool z.1.V)).setCell ⟨w.heap.size,7,none⟩ (.bool z.1.D)).setCell ⟨w.heap.size,8,none⟩ (.bool z.1.I)).setCell ⟨w.heap.size,9,none⟩ (.bool z.1.Z)).setCell ⟨w.heap.size,10,none⟩ (.bool z.1.C)) w.heap.size 28 (dAA z.1):=kFA qC (.int .u8 (z.1.A:Int)) (.int .u8 (z.1.X:Int)) (.int .u8 (z.1.Y:Int)) (.int .u8 (z.1.S:Int)) (.int .u16 (z.1.PC:Int)) (.bool z.1.N) (.bool z.1.V) (.bool z.1.D) (.bool z.1.I) (.bool z.1.Z) (.bool z.1.C);have yN:BoxN (((((((((((wI.setCell ⟨w.heap.size,0,none⟩ (.int .u8 (z.1.A:Int))).setCell ⟨w.heap.size,1,none⟩ (.int .u8 (z.1.X:Int))).setCell ⟨w.heap.size,2,none⟩ (.int .u8 (z.1.Y:Int))).setCell ⟨w.heap.size,3,none⟩ (.int .u8 (z.1.S:Int))).setCell ⟨w.heap.size,4,none⟩ (.int .u16 (z.1.PC:Int))).setCell ⟨w.heap.size,5,none⟩ (.bool z.1.N)).setCell ⟨w.heap.size,6,none⟩ (.bool z.1.V)).setCell ⟨w.heap.size,7,none⟩ (.bool z.1.D)).setCell ⟨w.heap.size,8,none⟩ (.bool z.1.I)).setCell ⟨w.heap.size,9,none⟩ (.bool z.1.Z)).setCell ⟨w.heap.size,10,none⟩ (.bool z.1.C)) (w.heap.size+1+1) 28 fAA:=lCA yC dQ (.int .u8 (z.1.A:Int)) (.int .u8 (z.1.X:Int)) (.int .u8 (z.1.Y:Int)) (.int .u8 (z.1.S:Int)) (.int .u16 (z.1.PC:Int)) (.bool z.1.N) (.bool z.1.V) (.bool z.1.D) (.bool z.1.I) (.bool z.1.Z) (.bool z.1.C);have xN:BoxN (((((((((((wI.setCell ⟨w.heap.size,0,none⟩ (.int .u8 (z.1.A:Int))).setCell ⟨w.heap.size,1,none⟩ (.int .u8 (z.1.X:Int))).setCell ⟨w.heap.size,2,none⟩ (.int .u8 (z.1.Y:Int))).setCell ⟨w.heap.size,3,none⟩ (.int .u8 (z.1.S:Int))).setCell ⟨w.heap.size,4,none⟩ (.int .u16 (z.1.PC:Int))).setCell ⟨w.heap.size,5,none⟩ (.bool z.1.N)).setCell ⟨w.heap.size,6,none⟩ (.bool z.1.V)).setCell ⟨w.heap.size,7,none⟩ (.bool z.1.D)).setCell ⟨w.heap.size,8,none⟩ (.bool z.1.I)).setCell ⟨w.heap.size,9,none⟩ (.bool z.1.Z)).setCell ⟨w.heap.size,10,none⟩ (.bool z.1.C)) (w.heap.size+1+1+1) 30 #[.slice none 0 0]:=lCA xC dQ (.int .u8 (z.1.A:Int)) (.int .u8 (z.1.X:Int)) (.int .u8 (z.1.Y:Int)) (.int .u8 (z.1.S:Int)) (.int .u16 (z.1.PC:Int)) (.bool z.1.N) (.bool z.1.V) (.bool z.1.D) (.bool z.1.I) (.bool z.1.Z) (.bool z.1.C);have SN:Sit (newF w) w 4 B (((((((((((wI.setCell ⟨w.heap.size,0,none⟩ (.int .u8 (z.1.A:Int))).setCell ⟨w.heap.size,1,none⟩ (.int .u8 (z.1.X:Int))).setCell ⟨w.heap.size,2,none⟩ (.int .u8 (z.1.Y:Int))).setCell ⟨w.heap.size,3,none⟩ (.int .u8 (z.1.S:Int))).setCell ⟨w.heap.size,4,none⟩ (.int .u16 (z.1.PC:Int))).setCell ⟨w.heap.size,5,none⟩ (.bool z.1.N)).setCell ⟨w.heap.size,6,none⟩ (.bool z.1.V)).setCell ⟨w.heap.size,7,none⟩ (.bool z.1.D)).setCell ⟨w.heap.size,8,none⟩ (.bool z.1.I)).setCell ⟨w.heap.size,9,none⟩ (.bool z.1.Z)).setCell ⟨w.heap.size,10,none⟩ (.bool z.1.C)) _:=SC.eleven (.int .u8 (z.1.A:Int)) (.int .u8 (z.1.X:Int)) (.int .u8 (z.1.Y:Int)) (.int .u8 (z.1.S:Int)) (.int .u16 (z.1.PC:Int)) (.bool z.1.N) (.bool z.1.V) (.bool z.1.D) (.bool z.1.I) (.bool z.1.Z) (.bool z.1.C) (Nat.le_refl _) dQ;generalize ((((((((((wI.setCell ⟨w.heap.size,0,none⟩ (.int .u8 (z.1.A:Int))).setCell ⟨w.heap.size,1,none⟩ (.int .u8 (z.1.X:Int))).setCell ⟨w.heap.size,2,none⟩ (.int .u8 (z.1.Y:Int))).setCell ⟨w.heap.size,3,none⟩ (.int .u8 (z.1.S:Int))).setCell ⟨w.heap.size,4,none⟩ (.int .u16 (z.1.PC:Int))).setCell ⟨w.heap.size,5,none⟩ (.bool z.1.N)).setCell ⟨w.heap.size,6,none⟩ (.bool z.1.V)).setCell ⟨w.heap.size,7,none⟩ (.bool z.1.D)).setCell ⟨w.heap.size,8,none⟩ (.bool z.1.I)).setCell ⟨w.heap.size,9,none⟩ (.bool z.1.Z)).setCell ⟨w.heap.size,10,none⟩ (.bool z.1.C)=wZ at qN yN xN SN ⊢;clear qC yC xC SC;obtain⟨gg,cc,vv,m0,m1,e8,i4,ho,a5,a3,a0⟩:=SN.rows;obtain⟨g0,g1,g2,g3,g4,g5,g6,g7,g8,g9,g10,f0⟩:=eleven qN;obtain⟨h0,h1,h2,h3,h4,h5,h6,h7,h8,h9,h10,f1⟩:=eleven yN;have x0c:=xN.cell 0 _ rfl;have fx:=fun k=>xN.frozen k
  have HQ:=hQ (And.intro SN (And.intro ho (And.intro a5 (And.intro a3 a0))));clear ho a5 a3 a0 qN yN xN SN;go_wp2_with fail;go_region;all_goals
   go_wp2;refine bodyPost_ret (v:=.tuple #[cpuV (z.1),ramV (.slice (some ⟨gg,0,none⟩) (z.2).mem.length cc),vv]) (by simp[results,Tryz.results42,go_sem,g0,g1,g2,g3,g4,g5,g6,g7,g8,g9,g10,h0,h1,h2,h3,h4,h5,h6,h7,h8,h9,h10,x0c]) rfl ?_;obtain⟨SQ,ho,a5,a3,a0⟩:=HQ.out;refine uAA.of SQ ho a5 a3 a0 ?_;repeat(any_goals(first|(with_reducible exact Span.refl _ _ _)|(with_reducible refine Span.drew ?_)|(with_reducible refine Span.more ?_ _)|(with_reducible refine Span.inn ?_ _ ?_ ?_)))
   all_goals omega
def lBA (c:CpuN) (L:List Nat) (nmi:Bool):CpuN×BusN:=if ramN L.length=true then uFA ⟨L,[]⟩ c nmi else (cpu0,⟨[],[]⟩)
theorem mJA (c:CpuN) (hc:c.ok) (nmi:Bool) (a:Option Addr) (cap:Nat) (L:List Nat) (w:World) (hr:RowB w a L) :
  Calls Tryz.prog 42 #[cpuV c,ramV (.slice a L.length cap),.bool nmi] w (uAA w (lBA c L nmi)):=by
 cases h:ramN L.length with
 | false=>
  have e:lBA c L nmi=(cpu0,⟨[],[]⟩):=by unfold lBA;rw[h];rfl
  rw[e];exact wEB c nmi a cap L h w
 | true=>
  have hn:=eBA h;obtain⟨g,o,rfl,_,_⟩:=hr.2 dQ;have e:lBA c L nmi=uFA ⟨L,[]⟩ c nmi:=by unfold lBA;rw[h];rfl
  rw[e];exact dAB c hc nmi g o cap L h w hr
def Grew (b b':BusN) (n:Nat):Prop:=b'.mem.length=b.mem.length/\b'.log.length<=b.log.length+n
theorem Grew.same (b:BusN) (n:Nat):Grew b b n:=⟨rfl,dQ⟩
theorem Grew.rd {b b':BusN} {n a:Nat} (h:Grew b b' n):Grew b (b'.rd a) (n+1):=⟨h.1,by have:=h.2;simp[BusN.rd];omega⟩
theorem Grew.put {b b':BusN} {n a d:Nat} (h:Grew b b' n):Grew b (b'.put a d) (n+1):=⟨by have:=h.1;simp[BusN.put];exact this,by have:=h.2;simp[BusN.put];omega⟩
theorem Grew.mono {b b':BusN} {n m:Nat} (h:Grew b b' n) (hm:n<=m):Grew b b' m:=⟨h.1,by have:=h.2;omega⟩
theorem fIA {E b:BusN} {n:Nat} (h:Grew E b n) (c:CpuN) (m k:Int):Grew E (kAA b c m k).2 (n+4):=by
 unfold kAA baseN;dsimp only;repeat' split
 all_goals first
  | with_reducible exact h.rd.rd.rd.rd
  | with_reducible exact h.rd.rd.rd.mono dQ
  | with_reducible exact h.rd.rd.mono dQ
  | with_reducible exact h.rd.mono dQ
theorem xIA {E b:BusN} {n:Nat} (h:Grew E b n) (c:CpuN) (pc:Nat) (d7:Bool) (v:Nat):Grew E (pushN b c pc d7 v).2 (n+5):=h.put.put.put.rd.rd
theorem nRA {E b:BusN} {n:Nat} (h:Grew E b n) (c:CpuN) (l:List UInt8):Grew E (gBA b c l).2 (n+5):=by
 unfold gBA;dsimp only;split
 ·dsimp only;split
  ·exact h.rd.rd.mono dQ
  ·exact h.rd.rd.rd.mono dQ
 ·exact h.rd.mono dQ
theorem kZA {E b:BusN} {n:Nat} (h:Grew E b n) (c:CpuN) (l:List UInt8):Grew E (holdN b c l).2 (n+4):=by
 unfold holdN;dsimp only;repeat' split
 all_goals first
  | with_reducible exact h.rd.rd.mono dQ
  | with_reducible exact h.put.mono dQ
theorem xEB {E b:BusN} {n:Nat} (h:Grew E b n) (c:CpuN) (l:List UInt8) (m:Int):Grew E (goN b c l m).2 (n+6):=by
 unfold goN;dsimp only;repeat' split
 all_goals first
  | with_reducible exact (xIA h.rd _ _ _ _).mono dQ
  | with_reducible exact (kZA h.rd _ _).mono dQ
  | with_reducible exact h.rd.rd.rd.rd.rd.mono dQ
  | with_reducible exact h.rd.rd.put.put.rd.mono dQ
  | with_reducible exact h.rd.rd.rd.rd.mono dQ
  | with_reducible exact h.rd.rd.mono dQ
theorem nYA {E b:BusN} {n:Nat} (h:Grew E b n) (c:CpuN) (a7:Nat):Grew E (dataN b c a7).2 (n+7):=by
 unfold dataN;dsimp only;repeat' split
 all_goals first
  | with_reducible exact h.rd.mono dQ
  | with_reducible exact (fIA h _ _ _).rd.mono dQ
  | with_reducible exact (fIA h _ _ _).put.mono dQ
  | with_reducible exact (fIA h _ _ _).rd.put.put.mono dQ
theorem eQA (b:BusN) (c:CpuN):Grew b (opN b c).2 8:=by
 have h:=(Grew.same b 0).rd (a:=c.PC);unfold opN;dsimp only;repeat' split
 all_goals first
  | with_reducible exact h.rd.mono dQ
  | with_reducible exact (nRA h _ _).mono dQ
  | with_reducible exact (nYA h _ _).mono dQ
  | with_reducible exact (xEB h _ _ _).mono dQ
theorem yHA (c:CpuN) (L:List Nat):(stepN c L).2.mem.length<=L.length/\(stepN c L).2.log.length<=8:=by
 unfold stepN;split
 ·split
  ·exact⟨Nat.le_refl _,xQ⟩
  ·have h:=eQA ⟨L,[]⟩ c;exact⟨by have:=h.1;simpa using Nat.le_of_eq this,by simpa using h.2⟩
 ·exact⟨xQ,xQ⟩
theorem fEA (c:CpuN) (L:List Nat) (nmi:Bool):(lBA c L nmi).2.mem.length<=L.length/\(lBA c L nmi).2.log.length<=8:=by
 unfold lBA;split
 ·have h:=xIA (((Grew.same ⟨L,[]⟩ 0).rd (a:=c.PC)).rd (a:=c.PC)) c c.PC false (if nmi then 65530 else 65534);exact⟨Nat.le_of_eq h.1,Nat.le_trans h.2 xQ⟩
 ·exact⟨xQ,xQ⟩
def dFA:Prop:=∀ (a:Option Addr) (n c:Nat) (w:World),n<=1048576->Calls Tryz.prog 37 #[ramV (.slice a n c)] w fun e w'=>e=.returned (.bool (ramN n))/\Below w.heap.size w w'
def mPA:Prop:=∀ (a:Option Addr) (c addr:Nat) (L:List Nat) (w:World),addr < 65536->L.length<=1048576->L.length<=c->RowB w a L->Calls Tryz.prog 16 #[ramV (.slice a L.length c),.int .u16 addr] w fun e w'=>e=.returned (.int .u8 (peekL L addr))/\Below w.heap.size w w'
def uLA:Prop:=∀ (a:Option Addr) (c addr:Nat) (L:List Nat) (ax:Option Addr) (cx:Nat) (X:List Nat) (w:World),addr < 65536->L.length<=1048576->L.length<=c->X.length<=1048576->X.length<=cx->RowB w a L->RowB w ax X->Calls Tryz.prog 38 #[ramV (.slice a L.length c),.int .u16 addr,.slice ax X.length cx] w fun e w'=>∃ v,e=.returned (ramV v)/\OwnB w' w.heap.size v (fillL L addr X)/\Below w.heap.size w w'
def jCA:Prop:=∀ (a:Option Addr) (c pc:Nat) (L:List Nat) (w:World),pc < 65536->L.length<=1048576->L.length<=c->RowB w a L->Calls Tryz.prog 17 #[ramV (.slice a L.length c),.int .u16 pc] w fun e w'=>e=.returned (.bool (jamsN L pc))/\Below w.heap.size w w'
def rCA:Prop:=∀ (c:CpuN) (a:Option Addr) (cap:Nat) (L:List Nat) (nmi:Bool) (w:World),c.ok->L.length<=1048576->L.length<=cap->RowB w a L->Calls Tryz.prog 126 #[cpuV c,ramV (.slice a L.length cap),.bool nmi] w (uAA w (lBA c L nmi))
def cDA:Prop:=∀ (c:CpuN) (a:Option Addr) (cap:Nat) (L:List Nat) (w:World),c.ok->L.length<=1048576->L.length<=cap->RowB w a L->Calls Tryz.prog 147 #[cpuV c,ramV (.slice a L.length cap)] w (uAA w (stepN c L))
def RowC (w:World) (a:Option Addr) (L:List CycN):Prop:=
 0 < L.length->∃ g o,a=some ⟨g,o,none⟩/\g < w.heap.size/\∀ i (h:i < L.length),w.cell? ⟨g,o+i*3,none⟩=some (.int .u16 (L[i].addr:Int))/\w.cell? ⟨g,o+i*3+1,none⟩=some (.int .u8 (L[i].data:Int))/\w.cell? ⟨g,o+i*3+2,none⟩=some (.bool L[i].wr)
theorem dCB (L:List CycN):∀ (i:Nat) (h:i < L.length),(L.flatMap xAA)[i*3]?=some (.int .u16 (L[i].addr:Int))/\(L.flatMap xAA)[i*3+1]?=some (.int .u8 (L[i].data:Int))/\(L.flatMap xAA)[i*3+2]?=some (.bool L[i].wr):=by
 induction L with
 | nil=>intro i h;simp at h
 | cons c r ih=>
  intro i h;cases i with
  | zero=>simp[xAA]
  | succ i=>
   have e1:(i+1)*3=i*3+3:=dQ;have e2:(i+1)*3+1=i*3+1+3:=dQ;have e3:(i+1)*3+2=i*3+2+3:=dQ;obtain⟨h1,h2,h3⟩:=ih i (by simpa using h);rw[List.flatMap_cons,e2,e3,e1];refine⟨?_,?_,?_⟩;all_goals
    rw[List.getElem?_append_right (by simp[xAA])];simp only[xAA,List.length_cons,List.length_nil,Nat.zero_add,Nat.add_sub_cancel,List.getElem_cons_succ]
    assumption
theorem OwnC.row {w:World} {base:Nat} {a:Option Addr} {n cap:Nat} {L:List CycN} (h:OwnC w base (.slice a n cap) L):n=L.length/\RowC w a L:=by
 have h':=h;obtain⟨_,h2⟩:=h;rcases h2 with ⟨h2,hn⟩|⟨g,e6,e9,e,hb,hh,i1,_⟩
 ·simp only[Value.slice.injEq] at h2;refine⟨dQ,fun h=>dQ⟩
 ·simp only[Value.slice.injEq] at e;obtain⟨rfl,rfl,rfl⟩:=e;refine⟨rfl,fun h0=>⟨g,0,rfl,(Array.getElem?_eq_some_iff.1 hh).1,fun i hi=>?_⟩⟩;obtain⟨c1,c2,c3⟩:=dCB L i hi;simp only[Nat.zero_add];exact⟨(World.ownsRow.cellAt h' (i*3) dQ).trans c1,(World.ownsRow.cellAt h' (i*3+1) dQ).trans c2,(World.ownsRow.cellAt h' (i*3+2) dQ).trans c3⟩
theorem RowC.below {w w':World} {a:Option Addr} {L:List CycN} (h:RowC w a L) (hb:Below w.heap.size w w'):RowC w' a L:=fun h0=>by
 obtain⟨g,o,rfl,hg,hc⟩:=h h0;refine⟨g,o,rfl,Nat.lt_of_lt_of_le hg hb.size,fun i hi=>?_⟩;obtain⟨h1,h2,h3⟩:=hc i hi;exact⟨bJA hb h1 hg,bJA hb h2 hg,bJA hb h3 hg⟩
theorem wXA (x y:Int) (b:Bool) (w:World) :
  Calls Tryz.prog 92 #[.agg #[.int .u16 x,.int .u8 y,.bool b],.agg #[.int .u16 x,.int .u8 y,.bool b]] w fun e w'=>e=.returned (.bool true)/\Below w.heap.size w w':=by
 go_enter Tryz.func92,Tryz.ntmps92;go_wp2;go_ret;exact⟨rfl,((Below.refl _ _).alloc (Nat.le_refl _) _).alloc xQ _⟩
theorem zTA (a1 a2:Option Addr) (c1 c2:Nat) (L:List CycN) (w:World) (hl:L.length<=1048576) (h1:RowC w a1 L) (h2:RowC w a2 L) :
  Calls Tryz.prog 53 #[.slice a1 L.length c1,.slice a2 L.length c2] w fun e w'=>e=.returned (.bool true)/\Below w.heap.size w w':=by
 have H1:=hQ h1;have H2:=hQ h2;clear h1 h2;go_enter Tryz.func53,Tryz.ntmps53;go_wp2;go_loopw [5] (fun i wr=>∃ k:Nat,k<=L.length/\i=.int .i64 k/\Below w.heap.size w wr) (fun i _=>L.length - (intOf i).toNat)
 case atStart=>exact⟨0,Nat.zero_le _,rfl,Below.refl _ _⟩
 case round=>
  obtain⟨k,hk,rfl,hb⟩:=hrel;by_cases hp:k < L.length
  ·obtain⟨g1,o1,rfl,_,e1⟩:=(H1.out.below hb) dQ;obtain⟨g2,o2,rfl,_,e2⟩:=(H2.out.below hb) dQ;obtain⟨f1,f2,f3⟩:=e1 k hp;obtain⟨f4,f5,f6⟩:=e2 k hp;clear e1 e2;obtain⟨x,hx⟩:∃ x,L[k].addr=x:=⟨_,rfl⟩;obtain⟨y,hy⟩:∃ x,L[k].data=x:=⟨_,rfl⟩;obtain⟨b,b8⟩:∃ x,L[k].wr=x:=⟨_,rfl⟩;rw[hx] at f1 f4;rw[hy] at f2 f5;rw[b8] at f3 f6;clear hx hy b8;have ik:(0:Int)<=(k:Int)/\(k:Int) < (L.length:Int):=dQ;go_wp2_with fail;go_still_tail 8,gQ;change wpList _ _ _ _ _ wr.drew;go_wp2_with fail;refine (wXA _ _ _ _).mono ?_;rintro e Q ⟨rfl,d1⟩;have b1:=bstep hb.drew d1;go_wp2;go_roundw
   case rel=>exact⟨k+1,dQ,bQe,b1⟩
   case measure=>simp[intOf];omega
  ·go_wp2;go_ret;exact⟨rfl,hb⟩
def markC (k:Nat):CycN:=⟨k % 65536,(k+1) % 256,(k+2) % 3==0⟩
def jBA:Nat->Nat->List CycN
 | _,0=>[]
 | k,n+1=>markC k :: jBA (k+3) n
theorem mFA:∀ (n k:Nat),(jBA k n).length=n
 | 0,_=>rfl
 | n+1,k=>by simp[jBA,mFA n]
theorem aOA:∀ (n k i:Nat) (h:i < (jBA k n).length),(jBA k n)[i]=markC (k+3*i)
 | 0,k,i,h=>by simp[jBA] at h
 | n+1,k,0,h=>by simp[jBA]
 | n+1,k,i+1,h=>by
  simp only[jBA,List.getElem_cons_succ];rw[aOA n (k+3) i];congr 1;omega
theorem dLA:∀ (n k:Nat),jBA k (n+1)=jBA k n++[markC (k+3*n)]
 | 0,k=>by simp[jBA]
 | n+1,k=>by
  rw[jBA,dLA n (k+3),jBA,List.cons_append,show k+3+3*n=k+3*(n+1) by omega]
theorem bAB (a:Option Addr) (n cap k0:Nat) (w:World) (hn:n<=1048576) (hk:k0<=100000000) (h:RowC w a (jBA k0 n)) :
  Calls Tryz.prog 63 #[.slice a n cap,.int .i64 k0] w fun e w'=>e=.returned (.int .i64 (k0+3*n:Nat))/\Below w.heap.size w w':=by
 have H:=hQ h;clear h;go_enter Tryz.func63,Tryz.ntmps63;go_wp2;go_loop [1,5] (fun kk i=>∃ (j:Nat),j<=n/\i=.int .i64 j/\kk=.int .i64 (k0+3*j:Nat)) (fun _ i=>n - (intOf i).toNat)
 case atStart=>exact⟨0,Nat.zero_le _,rfl,rfl⟩
 case round=>
  obtain⟨j,hj,rfl,rfl⟩:=hrel;by_cases hp:j < n
  ·obtain⟨g,o,rfl,_,hc⟩:=H.out (by rw[mFA];omega);obtain⟨f1,f2,f3⟩:=hc j (by rw[mFA];exact hp);rw[aOA] at f1 f2 f3;obtain⟨K,hK⟩:∃ K,k0+3*j=K:=⟨_,rfl⟩;rw[hK] at f1 f2 f3 ⊢;have d6:K<=200000000:=dQ;have HK:=hQ hK;clear hc hK;unfold markC at f1 f2 f3;dsimp only at f1 f2 f3;have e1:(((K % 65536:Nat):Int))=IntKind.u16.wrap (K:Int):=lQe;have e2:((((K+1) % 256:Nat):Int))=((K:Int)+1) % 256:=dQ;have e3:((K+2) % 3==0)=(((K:Int)+1+1) % 3==0):=by
    rw[Bool.eq_iff_iff];simp only[beq_iff_eq];omega
   rw[e1] at f1;rw[e2] at f2;rw[e3] at f3;clear e1 e2 e3;go_wp2;go_round
   case rel=>exact⟨j+1,dQ,bQe,eQh⟩
   case measure=>simp[intOf];omega
  ·obtain rfl:j=n:=dQ;go_wp2;go_ret;exact⟨rfl,Below.refl _ _⟩
theorem pFB (A:List CycN):(A.flatMap xAA).length=A.length*3:=by
 induction A with
 | nil=>rfl
 | cons c r ih=>rw[List.flatMap_cons,List.length_append,ih,List.length_cons];simp[xAA];omega
theorem oCB (A B:List CycN) (c c':CycN) (n:Nat) (hn:n=A.length):(((((A++c :: B).flatMap xAA).set (n*3) (.int .u16 (c'.addr:Int))).set (n*3+1) (.int .u8 (c'.data:Int))).set (n*3+2) (.bool c'.wr))=(A++c' :: B).flatMap xAA:=by
 have hl:=pFB A;rw[<-hn] at hl;rw[List.flatMap_append,List.flatMap_append,List.flatMap_cons,List.flatMap_cons];have st:∀ (Y:List Value) (i:Nat) (x:Value),(A.flatMap xAA++Y).set (n*3+i) x=A.flatMap xAA++Y.set i x:=fun Y i x=>by
  rw[List.set_append,if_neg dQ,hl,show n*3+i - n*3=i by omega]
 have d3:∀ (Y:List Value) (x:Value),(A.flatMap xAA++Y).set (n*3) x=A.flatMap xAA++Y.set 0 x:=fun Y x=>st Y 0 x
 rw[d3,st,st];rfl
theorem aRA (L:List CycN) (k0 j:Nat) (h:j < L.length):∃ c B,jBA k0 j++L.drop j=jBA k0 j++c :: B/\jBA k0 (j+1)++L.drop (j+1)=jBA k0 j++markC (k0+3*j) :: B:=by
 refine⟨L[j],L.drop (j+1),?_,?_⟩
 ·rw[List.drop_eq_getElem_cons h]
 ·rw[dLA,List.append_assoc];rfl
theorem aAB (g n cap k0:Nat) (base:Nat) (L:List CycN) (w:World) (hn:n=L.length) (i3:n<=1048576) (hk:k0<=100000000) (h:OwnC w base (.slice (some ⟨g,0,none⟩) n cap) L) :
  Calls Tryz.prog 59 #[.slice (some ⟨g,0,none⟩) n cap,.int .i64 k0] w fun e w'=>e=.returned (.int .i64 (k0+3*n:Nat))/\OwnC w' base (.slice (some ⟨g,0,none⟩) n cap) (jBA k0 n)/\w.grownBy w' (some g):=by
 subst hn;have H:=hQ h;clear h;go_enter Tryz.func59,Tryz.ntmps59;go_wp2;go_loopw [1,5] (fun kk i wr=>∃ (j:Nat),j<=L.length/\i=.int .i64 j/\kk=.int .i64 (k0+3*j:Nat)/\Hid (wr.ownsRow base 91 3 (.slice (some ⟨g,0,none⟩) L.length cap) L.length ((jBA k0 j++L.drop j).flatMap xAA)/\w.grownBy wr (some g))) (fun _ i _=>L.length - (intOf i).toNat)
 case atStart=>exact⟨0,Nat.zero_le _,rfl,rfl,hQ ⟨by simpa [jBA,OwnC] using H.out,World.grownBy.refl _ _⟩⟩
 case round=>
  obtain⟨j,hj,rfl,rfl,O⟩:=hrel;by_cases hp:j < L.length
  ·obtain⟨U,a4⟩:=O.out;obtain⟨c,B,eA,eB⟩:=aRA L k0 j hp;rw[eA] at U;have a8:(jBA k0 j++c :: B).length=L.length:=by rw[<-eA,List.length_append,mFA,List.length_drop];omega
   have b6:j < (jBA k0 j++c :: B).length:=dQ;have J:=fun (i:Nat) (hi:i < L.length*3)=>World.ownsRow.cellAt U i hi
   obtain⟨k1,k2,k3⟩:=dCB (jBA k0 j++c :: B) j b6;have f1:=(J (j*3) dQ).trans k1;have f2:=(J (j*3+1) dQ).trans k2;have f3:=(J (j*3+2) dQ).trans k3;have z1:=World.ownsRow.frozenAt U (j*3);have z2:=World.ownsRow.frozenAt U (j*3+1);have z3:=World.ownsRow.frozenAt U (j*3+2);obtain⟨K,hK⟩:∃ K,k0+3*j=K:=⟨_,rfl⟩;rw[hK] at eB ⊢;have s1:=World.ownsRow.stored U (j*3) (.int .u16 ((markC K).addr:Int));have s2:=World.ownsRow.stored s1.1 (j*3+1) (.int .u8 ((markC K).data:Int));have s3:=World.ownsRow.stored s2.1 (j*3+2) (.bool (markC K).wr);rw[oCB _ _ _ _ j (mFA j k0).symm,<-eB] at s3;have HST:=hQ (And.intro s3.1 (fDA (fDA (fDA a4 s1.2) s2.2) s3.2));have d6:K<=200000000:=dQ;have HK:=hQ hK;obtain⟨u1,b9⟩:∃ u,(jBA k0 j++c :: B)[j].addr=u:=⟨_,rfl⟩;obtain⟨u2,c0⟩:∃ u,(jBA k0 j++c :: B)[j].data=u:=⟨_,rfl⟩;obtain⟨u3,b3⟩:∃ u,(jBA k0 j++c :: B)[j].wr=u:=⟨_,rfl⟩;rw[b9] at f1;rw[c0] at f2;rw[b3] at f3;clear U a4 eA eB a8 b6 J k1 k2 k3 s1 s2 s3 hK b9 c0 b3 O;have ik:(0:Int)<=(j:Int)/\(j:Int) < (L.length:Int):=dQ;go_wp2;go_roundw
   case rel=>
    refine⟨j+1,dQ,bQe,eQh,hQ ?_⟩;have e1:(((markC K).addr:Nat):Int)=IntKind.u16.wrap (K:Int):=by unfold markC;simp[IntKind.wrap,IntKind.bits,IntKind.signed]
    have e2:(((markC K).data:Nat):Int)=((K:Int)+1) % 256:=by unfold markC;dsimp only;omega
    have e3:(markC K).wr=(((K:Int)+1+1) % 3==0):=by
     unfold markC;rw[Bool.eq_iff_iff];simp only[beq_iff_eq];omega
    have hh:=HST.out;rw[e1,e2,e3] at hh;exact hh
   case measure=>simp[intOf];omega
  ·obtain rfl:j=L.length:=dQ;obtain⟨U,a4⟩:=O.out;have e4:OwnC wr base (.slice (some ⟨g,0,none⟩) L.length cap) (jBA k0 L.length):=by
    unfold OwnC;rw[mFA];simpa using U
   clear U O;go_wp2;go_ret;exact⟨rfl,e4,a4⟩
theorem sSA (a:Option Addr) (cap k0:Nat) (w:World) (hk:k0<=100000000) :
  Calls Tryz.prog 59 #[.slice a 0 cap,.int .i64 k0] w fun e w'=>e=.returned (.int .i64 (k0:Nat))/\w=w':=by
 go_enter Tryz.func59,Tryz.ntmps59;go_wp2;go_loopw [1,5] (fun kk i wr=>i=.int .i64 0/\kk=.int .i64 k0/\wr=w) (fun _ _ _=>0)
 case atStart=>exact⟨rfl,rfl,rfl⟩
 case round=>
  obtain⟨rfl,rfl,rfl⟩:=hrel;go_wp2;go_ret;exact⟨rfl,rfl⟩

end Go.Proofs.YtckfdbjjjgfbfaaGreat
