import Derived.Test.YtckfdbjjjgfbfaaGreatVStepK
import Derived.Laws.Tables
set_option linter.unusedVariables false
set_option linter.unusedSimpArgs false
set_option maxRecDepth 100000
set_option maxHeartbeats 2000000
namespace Go.Proofs.YtckfdbjjjgfbfaaGreat
open Go.RowKit
theorem cCB (c:CpuN) (nmi:Bool) (a:Option Addr) (cap:Nat) (L:List Nat) (h:ramN L.length=false) (w:World) :
  Calls Tryz.prog 42 #[cpuV c,ramV (.slice a L.length cap),.bool nmi] w (wAA w (cpu0,⟨[],[]⟩)):=by
 have HO:=fun w=>pBA a L.length cap w
 rw[h] at HO;clear h;go_enter Tryz.func42,Tryz.ntmps42;go_wp2_with fail;refine (HO _).mono ?_;rintro e w1 ⟨rfl,d1⟩;obtain⟨q0,r0,y0,x0,J,z0⟩:=lCA d1;obtain⟨h0,h1,h2,h3,h4,h5,h6,h7,h8,h9,h10,f1⟩:=eleven y0;have x0c:=x0.cell 0 _ rfl;have fx:=fun k=>x0.frozen k
 have n0:=y0.lt;have n1:=x0.lt;have B0:=j_ J;clear d1 q0 r0 y0 x0 J HO;go_wp2;refine bodyPost_ret (v:=.tuple #[cpuV cpu0,ramV (.slice none 0 0),.slice (some ⟨w1.heap.size,0,none⟩) 0 0]) (by simp[results,Tryz.results42,go_sem,h0,h1,h2,h3,h4,h5,h6,h7,h8,h9,h10,x0c,cpu0,n0,n1]) rfl ⟨_,_,rfl,vDA _ _,?_,fun k ek=>bQb,?_⟩
 ·have:=dMA (((set11 w1 (w.heap.size+1+1) (.int .u8 0) (.int .u8 0) (.int .u8 0) (.int .u8 0) (.int .u16 0) (.bool false) (.bool false) (.bool false) (.bool false) (.bool false) (.bool false)).setCell ⟨w.heap.size+1+1+1,0,none⟩ (.slice none 0 0))) (base:=w.heap.size) qQ;simpa using this
 ·have hW:=B0.out;all_goals exact aQ
theorem nYA (c:CpuN) (hc:c.ok) (nmi:Bool) (g o cap:Nat) (L:List Nat) (h:ramN L.length=true) (w:World) (hr:RowB w (some ⟨g,o,none⟩) L) :
  Calls Tryz.prog 42 #[cpuV c,ramV (.slice (some ⟨g,o,none⟩) L.length cap),.bool nmi] w (wAA w (lFA ⟨L,[]⟩ c nmi)):=by
 have d8:=hc;obtain⟨hA,hX,hY,hS,hP⟩:=hc;have HO:=fun w=>pBA (some ⟨g,o,none⟩) L.length cap w
 rw[h] at HO;have R:=dBA h;have i3:g < w.heap.size:=by
  obtain⟨g',o',e,i2,_⟩:=hr.2 dQ;simp only[Option.some.injEq,Addr.mk.injEq] at e;omega
 obtain⟨i0,hi,hz0,hz1,e6⟩:=info_parts yEA;obtain⟨z,a3⟩:∃ r_,lFA ⟨L,[]⟩ c nmi=r_:=⟨_,rfl⟩;have HRES:=j_ a3;rw[a3];have HH:=j_ h;have HR:=j_ hr;clear h hr a3;go_enter Tryz.func42,Tryz.ntmps42;go_wp2_with fail;refine (HO _).mono ?_;rintro e w1 ⟨rfl,d1⟩;obtain⟨q0,r0,y0,x0,J,z0⟩:=lCA d1;have d9:=(r0.below ((Below.refl _ w1).alloc (Nat.le_refl _) (.cells #[] 5))).cell 0 _ rfl;have HN:=j_ (RowB.below (RowB.below HR.out J) ((Below.refl _ w1).alloc (Nat.le_refl _) (.cells #[] 5)));have c0:=qFA (base:=w1.heap.size) w1 rfl (Nat.le_refl _);clear d1 HO;go_wp2_with (at_builtin;refine wpList_append_own _ rfl _ _ 22 rfl w1.heap.size 5 i0 (.int .u8 0) 1 1 Tryz.underlying22 hi hz0 hz1 e6 rfl iQ _ _ _ rfl c0 ⟨g,o,none⟩ L.length cap (L.map u8V) rfl yQ (bFA HN.out) (iFA L) ?c3 ?c4 ?c5 ?_)
 case c3=>unfold maxLen;first|omega|(simp;omega)
 case c4=>first|omega|(simp;omega)
 case c5=>first|omega|(simp;done)|(simp;omega)
 intro v' w4 hown' hgrow _;have a6:OwnB w4 w1.heap.size v' L:=⟨HR.out.1,sQh⟩;obtain⟨g4,c4,rfl,_⟩:=a6.cells dQ;have e0:=((World.ownsRow.lt a6.2) g4 rfl).1;have b4:Below w.heap.size w w4:=(J.alloc dQ _).grown hgrow qQ (fun j ej=>xQd);have kp:∀ j t cs,j < w.heap.size+4->BoxN w1 j t cs->BoxN w4 j t cs:=fun j t cs hj hb=>by
  have hb2:=hb.below ((Below.refl _ w1).alloc (Nat.le_refl _) (.cells #[] 5));exact (hgrow.block j hb2.lt rQe).trans hb2
 have S0:=Sit.start b4 kQb a6 dQ;have al:Below w4.heap.size w4 (w4.alloc (.cells #[.slice (some ⟨g4,0,none⟩) L.length c4,.slice none 0 0] 121)):=(Below.refl _ _).alloc (Nat.le_refl _) _;have q1:=(kp _ _ _ dQ q0).below al;have r1:=(kp _ _ _ dQ r0).below al;have y1:=(kp _ _ _ dQ y0).below al;have x1:=(kp _ _ _ dQ x0).below al;have d2:=j_ (RowB.below HR.out (b4.alloc b4.size (.cells #[.slice (some ⟨g4,0,none⟩) L.length c4,.slice none 0 0] 121)));have b6:=(BoxN.new w4 121 #[.slice (some ⟨g4,0,none⟩) L.length c4,.slice none 0 0]).lt;have e4:w.heap.size+4<=w4.heap.size:=kQb;clear hown' hgrow a6 e0 kp al q0 r0 y0 x0 J z0 d9 HN c0 b4 HR;obtain⟨B,hB⟩:∃ r_,w4.heap.size=r_:=⟨_,rfl⟩;rw[hB] at S0 b6 e4;obtain⟨za,c8⟩:∃ r_,(⟨L,[]⟩:BusN).get c.PC=r_:=⟨_,rfl⟩;obtain⟨b1,hb1⟩:∃ r_,(⟨L,[]⟩:BusN).rd c.PC=r_:=⟨_,rfl⟩;obtain⟨zc,c9⟩:∃ r_,b1.get c.PC=r_:=⟨_,rfl⟩;obtain⟨b2,hb2⟩:∃ r_,b1.rd c.PC=r_:=⟨_,rfl⟩;have F0:(⟨L,[]⟩:BusN).fit 0:=⟨HH.out,yQ⟩;have F1:b1.fit 1:=iQi;have F2:b2.fit 2:=by rw[<-hb2];exact F1.rd
 have er:pushN b2 c c.PC false (if nmi then 65530 else 65534)=z:=by rw[<-HRES.out];unfold lFA;rw[hb1,hb2]
 have Hr:=j_ er;have d4:=j_ c8;have Hb1:=j_ hb1;have d6:=j_ c9;have d3:=j_ hb2;clear er c8 hb1 c9 hb2 HRES r1 d2 b6;obtain⟨g0,g1,g2,g3,g4,g5,g6,g7,g8,g9,g10,f0⟩:=eleven q1;go_wp2_with fail;refine (S0.rd _ c.PC rfl dQ (F0.mono dQ) d4.out Hb1.out).mono ?_;rintro e w7 ⟨rfl,t7⟩;clear g0 g1 g2 g3 g4 g5 g6 g7 g8 g9 g10 f0;have q3:=t7.box _ _ _ (Nat.le_refl _) dQ q1;have y3:=t7.box _ _ _ dQ dQ y1;have x3:=t7.box _ _ _ dQ dQ x1;have S3:=t7.sit;clear t7 q1 y1 x1 S0 F0;obtain⟨g0,g1,g2,g3,g4,g5,g6,g7,g8,g9,g10,f0⟩:=eleven q3;go_wp2_with fail;refine (S3.rd _ c.PC rfl dQ (F1.mono dQ) d6.out d3.out).mono ?_;rintro e w8 ⟨rfl,t8⟩;clear g0 g1 g2 g3 g4 g5 g6 g7 g8 g9 g10 f0;have q4:=t8.box _ _ _ (Nat.le_refl _) dQ q3;have y4:=t8.box _ _ _ dQ dQ y3;have x4:=t8.box _ _ _ dQ dQ x3;have S4:=t8.sit;clear t8 q3 y3 x3 S3 F1;obtain⟨g0,g1,g2,g3,g4,g5,g6,g7,g8,g9,g10,f0⟩:=eleven q4;cases nmi;all_goals
  go_wp2_with fail;refine (tTA _ B b2 c d8 c.PC hP false _ ?_ (F2.mono dQ) _ S4.hF S4.bus _ _ rfl ?_ Hr.out).mono ?_
  ·simp
  ·simp
  rintro e wI ⟨rfl,hB_,hT_⟩;have tB:=S4.went hB_ hT_;have qC:=tB.box _ _ _ (Nat.le_refl _) dQ q4;have yC:=tB.box _ _ _ dQ dQ y4;have xC:=tB.box _ _ _ dQ dQ x4;have SC:=tB.sit;clear g0 g1 g2 g3 g4 g5 g6 g7 g8 g9 g10 f0;clear q4 y4 x4 S4 tB hB_ hT_;obtain⟨g0,g1,g2,g3,g4,g5,g6,g7,g8,g9,g10,f0⟩:=eleven qC;go_upto_region 10 with (fail)
  clear g0 g1 g2 g3 g4 g5 g6 g7 g8 g9 g10 f0;have qN:BoxN (((((((((((wI.setCell ⟨w.heap.size,0,none⟩ (.int .u8 (z.1.A:Int))).setCell ⟨w.heap.size,1,none⟩ (.int .u8 (z.1.X:Int))).setCell ⟨w.heap.size,2,none⟩ (.int .u8 (z.1.Y:Int))).setCell ⟨w.heap.size,3,none⟩ (.int .u8 (z.1.S:Int))).setCell ⟨w.heap.size,4,none⟩ (.int .u16 (z.1.PC:Int))).setCell ⟨w.heap.size,5,none⟩ (.bool z.1.N)).setCell ⟨w.heap.size,6,none⟩ (.bool z.1.V)).setCell ⟨w.heap.size,7,none⟩ (.bool z.1.D)).setCell ⟨w.heap.size,8,none⟩ (.bool z.1.I)).setCell ⟨w.heap.size,9,none⟩ (.bool z.1.Z)).setCell ⟨w.heap.size,10,none⟩ (.bool z.1.C)) w.heap.size 28 (dAA z.1):=fFA qC (.int .u8 (z.1.A:Int)) (.int .u8 (z.1.X:Int)) (.int .u8 (z.1.Y:Int)) (.int .u8 (z.1.S:Int)) (.int .u16 (z.1.PC:Int)) (.bool z.1.N) (.bool z.1.V) (.bool z.1.D) (.bool z.1.I) (.bool z.1.Z) (.bool z.1.C);have yN:BoxN (((((((((((wI.setCell ⟨w.heap.size,0,none⟩ (.int .u8 (z.1.A:Int))).setCell ⟨w.heap.size,1,none⟩ (.int .u8 (z.1.X:Int))).setCell ⟨w.heap.size,2,none⟩ (.int .u8 (z.1.Y:Int))).setCell ⟨w.heap.size,3,none⟩ (.int .u8 (z.1.S:Int))).setCell ⟨w.heap.size,4,none⟩ (.int .u16 (z.1.PC:Int))).setCell ⟨w.heap.size,5,none⟩ (.bool z.1.N)).setCell ⟨w.heap.size,6,none⟩ (.bool z.1.V)).setCell ⟨w.heap.size,7,none⟩ (.bool z.1.D)).setCell ⟨w.heap.size,8,none⟩ (.bool z.1.I)).setCell ⟨w.heap.size,9,none⟩ (.bool z.1.Z)).setCell ⟨w.heap.size,10,none⟩ (.bool z.1.C)) (w.heap.size+1+1) 28 gAA:=eCA yC dQ (.int .u8 (z.1.A:Int)) (.int .u8 (z.1.X:Int)) (.int .u8 (z.1.Y:Int)) (.int .u8 (z.1.S:Int)) (.int .u16 (z.1.PC:Int)) (.bool z.1.N) (.bool z.1.V) (.bool z.1.D) (.bool z.1.I) (.bool z.1.Z) (.bool z.1.C);have xN:BoxN (((((((((((wI.setCell ⟨w.heap.size,0,none⟩ (.int .u8 (z.1.A:Int))).setCell ⟨w.heap.size,1,none⟩ (.int .u8 (z.1.X:Int))).setCell ⟨w.heap.size,2,none⟩ (.int .u8 (z.1.Y:Int))).setCell ⟨w.heap.size,3,none⟩ (.int .u8 (z.1.S:Int))).setCell ⟨w.heap.size,4,none⟩ (.int .u16 (z.1.PC:Int))).setCell ⟨w.heap.size,5,none⟩ (.bool z.1.N)).setCell ⟨w.heap.size,6,none⟩ (.bool z.1.V)).setCell ⟨w.heap.size,7,none⟩ (.bool z.1.D)).setCell ⟨w.heap.size,8,none⟩ (.bool z.1.I)).setCell ⟨w.heap.size,9,none⟩ (.bool z.1.Z)).setCell ⟨w.heap.size,10,none⟩ (.bool z.1.C)) (w.heap.size+1+1+1) 30 #[.slice none 0 0]:=eCA xC dQ (.int .u8 (z.1.A:Int)) (.int .u8 (z.1.X:Int)) (.int .u8 (z.1.Y:Int)) (.int .u8 (z.1.S:Int)) (.int .u16 (z.1.PC:Int)) (.bool z.1.N) (.bool z.1.V) (.bool z.1.D) (.bool z.1.I) (.bool z.1.Z) (.bool z.1.C);have SN:Sit (newF w) w 4 B (((((((((((wI.setCell ⟨w.heap.size,0,none⟩ (.int .u8 (z.1.A:Int))).setCell ⟨w.heap.size,1,none⟩ (.int .u8 (z.1.X:Int))).setCell ⟨w.heap.size,2,none⟩ (.int .u8 (z.1.Y:Int))).setCell ⟨w.heap.size,3,none⟩ (.int .u8 (z.1.S:Int))).setCell ⟨w.heap.size,4,none⟩ (.int .u16 (z.1.PC:Int))).setCell ⟨w.heap.size,5,none⟩ (.bool z.1.N)).setCell ⟨w.heap.size,6,none⟩ (.bool z.1.V)).setCell ⟨w.heap.size,7,none⟩ (.bool z.1.D)).setCell ⟨w.heap.size,8,none⟩ (.bool z.1.I)).setCell ⟨w.heap.size,9,none⟩ (.bool z.1.Z)).setCell ⟨w.heap.size,10,none⟩ (.bool z.1.C)) _:=SC.eleven (.int .u8 (z.1.A:Int)) (.int .u8 (z.1.X:Int)) (.int .u8 (z.1.Y:Int)) (.int .u8 (z.1.S:Int)) (.int .u16 (z.1.PC:Int)) (.bool z.1.N) (.bool z.1.V) (.bool z.1.D) (.bool z.1.I) (.bool z.1.Z) (.bool z.1.C) (Nat.le_refl _) dQ;generalize ((((((((((wI.setCell ⟨w.heap.size,0,none⟩ (.int .u8 (z.1.A:Int))).setCell ⟨w.heap.size,1,none⟩ (.int .u8 (z.1.X:Int))).setCell ⟨w.heap.size,2,none⟩ (.int .u8 (z.1.Y:Int))).setCell ⟨w.heap.size,3,none⟩ (.int .u8 (z.1.S:Int))).setCell ⟨w.heap.size,4,none⟩ (.int .u16 (z.1.PC:Int))).setCell ⟨w.heap.size,5,none⟩ (.bool z.1.N)).setCell ⟨w.heap.size,6,none⟩ (.bool z.1.V)).setCell ⟨w.heap.size,7,none⟩ (.bool z.1.D)).setCell ⟨w.heap.size,8,none⟩ (.bool z.1.I)).setCell ⟨w.heap.size,9,none⟩ (.bool z.1.Z)).setCell ⟨w.heap.size,10,none⟩ (.bool z.1.C)=wZ at qN yN xN SN ⊢;clear qC yC xC SC;obtain⟨gg,cc,vv,m0,m1,e9,i1,ho,a7,b3,a8⟩:=SN.rows;obtain⟨g0,g1,g2,g3,g4,g5,g6,g7,g8,g9,g10,f0⟩:=eleven qN;obtain⟨h0,h1,h2,h3,h4,h5,h6,h7,h8,h9,h10,f1⟩:=eleven yN;have x0c:=xN.cell 0 _ rfl;have fx:=fun k=>xN.frozen k
  have HQ:=j_ (And.intro SN (And.intro ho (And.intro a7 (And.intro b3 a8))));clear ho a7 b3 a8 qN yN xN SN;go_wp2_with fail;go_region;all_goals
   go_wp2;refine bodyPost_ret (v:=.tuple #[cpuV (z.1),ramV (.slice (some ⟨gg,0,none⟩) (z.2).mem.length cc),vv]) (by simp[results,Tryz.results42,go_sem,g0,g1,g2,g3,g4,g5,g6,g7,g8,g9,g10,h0,h1,h2,h3,h4,h5,h6,h7,h8,h9,h10,x0c]) rfl ?_;obtain⟨SQ,ho,a7,b3,a8⟩:=HQ.out;refine wAA.of SQ ho a7 b3 a8 ?_;repeat(any_goals(first|(with_reducible exact Span.refl _ _ _)|(with_reducible refine Span.drew ?_)|(with_reducible refine Span.more ?_ _)|(with_reducible refine Span.inn ?_ _ ?_ ?_)))
   all_goals omega
def jBA (c:CpuN) (L:List Nat) (nmi:Bool):CpuN×BusN:=if ramN L.length=true then lFA ⟨L,[]⟩ c nmi else (cpu0,⟨[],[]⟩)
theorem vIA (c:CpuN) (hc:c.ok) (nmi:Bool) (a:Option Addr) (cap:Nat) (L:List Nat) (w:World) (hr:RowB w a L) :
  Calls Tryz.prog 42 #[cpuV c,ramV (.slice a L.length cap),.bool nmi] w (wAA w (jBA c L nmi)):=by
 cases h:ramN L.length with
 | false=>
  have e:jBA c L nmi=(cpu0,⟨[],[]⟩):=by unfold jBA;rw[h];rfl
  rw[e];exact cCB c nmi a cap L h w
 | true=>
  have R:=dBA h;obtain⟨g,o,rfl,_,_⟩:=hr.2 dQ;have e:jBA c L nmi=lFA ⟨L,[]⟩ c nmi:=by unfold jBA;rw[h];rfl
  rw[e];exact nYA c hc nmi g o cap L h w hr
def Grew (b b':BusN) (n:Nat):Prop:=b'.mem.length=b.mem.length/\b'.log.length<=b.log.length+n
theorem Grew.same (b:BusN) (n:Nat):Grew b b n:=⟨rfl,dQ⟩
theorem Grew.rd {b b':BusN} {n a:Nat} (h:Grew b b' n):Grew b (b'.rd a) (n+1):=⟨h.1,by have:=h.2;simp[BusN.rd];omega⟩
theorem Grew.put {b b':BusN} {n a d:Nat} (h:Grew b b' n):Grew b (b'.put a d) (n+1):=⟨by have:=h.1;simp[BusN.put];exact this,by have:=h.2;simp[BusN.put];omega⟩
theorem Grew.mono {b b':BusN} {n m:Nat} (h:Grew b b' n) (hm:n<=m):Grew b b' m:=⟨h.1,by have:=h.2;omega⟩
theorem sHA {J b:BusN} {n:Nat} (h:Grew J b n) (c:CpuN) (m k:Int):Grew J (kAA b c m k).2 (n+4):=by
 unfold kAA baseN;dsimp only;repeat' split
 all_goals first
  | with_reducible exact h.rd.rd.rd.rd
  | with_reducible exact h.rd.rd.rd.mono dQ
  | with_reducible exact h.rd.rd.mono dQ
  | with_reducible exact h.rd.mono dQ
theorem lIA {J b:BusN} {n:Nat} (h:Grew J b n) (c:CpuN) (pc:Nat) (d7:Bool) (v:Nat):Grew J (pushN b c pc d7 v).2 (n+5):=h.put.put.put.rd.rd
theorem vNA {J b:BusN} {n:Nat} (h:Grew J b n) (c:CpuN) (l:List UInt8):Grew J (fBA b c l).2 (n+5):=by
 unfold fBA;dsimp only;split
 ·dsimp only;split
  ·exact h.rd.rd.mono dQ
  ·exact h.rd.rd.rd.mono dQ
 ·exact h.rd.mono dQ
theorem lUA {J b:BusN} {n:Nat} (h:Grew J b n) (c:CpuN) (l:List UInt8):Grew J (holdN b c l).2 (n+4):=by
 unfold holdN;dsimp only;repeat' split
 all_goals first
  | with_reducible exact h.rd.rd.mono dQ
  | with_reducible exact h.put.mono dQ
theorem nAB {J b:BusN} {n:Nat} (h:Grew J b n) (c:CpuN) (l:List UInt8) (m:Int):Grew J (goN b c l m).2 (n+6):=by
 unfold goN;dsimp only;repeat' split
 all_goals first
  | with_reducible exact (lIA h.rd _ _ _ _).mono dQ
  | with_reducible exact (lUA h.rd _ _).mono dQ
  | with_reducible exact h.rd.rd.rd.rd.rd.mono dQ
  | with_reducible exact h.rd.rd.put.put.rd.mono dQ
  | with_reducible exact h.rd.rd.rd.rd.mono dQ
  | with_reducible exact h.rd.rd.mono dQ
theorem dUA {J b:BusN} {n:Nat} (h:Grew J b n) (c:CpuN) (b9:Nat):Grew J (dataN b c b9).2 (n+7):=by
 unfold dataN;dsimp only;repeat' split
 all_goals first
  | with_reducible exact h.rd.mono dQ
  | with_reducible exact (sHA h _ _ _).rd.mono dQ
  | with_reducible exact (sHA h _ _ _).put.mono dQ
  | with_reducible exact (sHA h _ _ _).rd.put.put.mono dQ
theorem dPA (b:BusN) (c:CpuN):Grew b (opN b c).2 8:=by
 have h:=(Grew.same b 0).rd (a:=c.PC);unfold opN;dsimp only;repeat' split
 all_goals first
  | with_reducible exact h.rd.mono dQ
  | with_reducible exact (vNA h _ _).mono dQ
  | with_reducible exact (dUA h _ _).mono dQ
  | with_reducible exact (nAB h _ _ _).mono dQ
theorem uJA (c:CpuN) (L:List Nat):(stepN c L).2.mem.length<=L.length/\(stepN c L).2.log.length<=8:=by
 unfold stepN;split
 ·split
  ·exact⟨Nat.le_refl _,yQ⟩
  ·have h:=dPA ⟨L,[]⟩ c;exact⟨by have:=h.1;simpa using Nat.le_of_eq this,by simpa using h.2⟩
 ·exact⟨yQ,yQ⟩
theorem mFA (c:CpuN) (L:List Nat) (nmi:Bool):(jBA c L nmi).2.mem.length<=L.length/\(jBA c L nmi).2.log.length<=8:=by
 unfold jBA;split
 ·have h:=lIA (((Grew.same ⟨L,[]⟩ 0).rd (a:=c.PC)).rd (a:=c.PC)) c c.PC false (if nmi then 65530 else 65534);exact⟨Nat.le_of_eq h.1,Nat.le_trans h.2 yQ⟩
 ·exact⟨yQ,yQ⟩
def uEA:Prop:=∀ (a:Option Addr) (n c:Nat) (w:World),n<=1048576->Calls Tryz.prog 37 #[ramV (.slice a n c)] w fun e w'=>e=.returned (.bool (ramN n))/\Below w.heap.size w w'
def kKA:Prop:=∀ (a:Option Addr) (c addr:Nat) (L:List Nat) (ax:Option Addr) (cx:Nat) (X:List Nat) (w:World),addr < 65536->L.length<=1048576->L.length<=c->X.length<=1048576->X.length<=cx->RowB w a L->RowB w ax X->Calls Tryz.prog 38 #[ramV (.slice a L.length c),.int .u16 addr,.slice ax X.length cx] w fun e w'=>∃ v,e=.returned (ramV v)/\OwnB w' w.heap.size v (fillL L addr X)/\Below w.heap.size w w'
def jCA:Prop:=∀ (a:Option Addr) (c pc:Nat) (L:List Nat) (w:World),pc < 65536->L.length<=1048576->L.length<=c->RowB w a L->Calls Tryz.prog 17 #[ramV (.slice a L.length c),.int .u16 pc] w fun e w'=>e=.returned (.bool (jamsN L pc))/\Below w.heap.size w w'
def kCA:Prop:=∀ (c:CpuN) (a:Option Addr) (cap:Nat) (L:List Nat) (nmi:Bool) (w:World),c.ok->L.length<=1048576->L.length<=cap->RowB w a L->Calls Tryz.prog 126 #[cpuV c,ramV (.slice a L.length cap),.bool nmi] w (wAA w (jBA c L nmi))
def uCA:Prop:=∀ (c:CpuN) (a:Option Addr) (cap:Nat) (L:List Nat) (w:World),c.ok->L.length<=1048576->L.length<=cap->RowB w a L->Calls Tryz.prog 147 #[cpuV c,ramV (.slice a L.length cap)] w (wAA w (stepN c L))
def RowC (w:World) (a:Option Addr) (L:List CycN):Prop:=
 0 < L.length->∃ g o,a=some ⟨g,o,none⟩/\g < w.heap.size/\∀ i (h:i < L.length),w.cell? ⟨g,o+i*3,none⟩=some (.int .u16 (L[i].addr:Int))/\w.cell? ⟨g,o+i*3+1,none⟩=some (.int .u8 (L[i].data:Int))/\w.cell? ⟨g,o+i*3+2,none⟩=some (.bool L[i].wr)
theorem eFB (L:List CycN):∀ (i:Nat) (h:i < L.length),(L.flatMap gBA)[i*3]?=some (.int .u16 (L[i].addr:Int))/\(L.flatMap gBA)[i*3+1]?=some (.int .u8 (L[i].data:Int))/\(L.flatMap gBA)[i*3+2]?=some (.bool L[i].wr):=by
 induction L with
 | nil=>intro i h;simp at h
 | cons c r ih=>
  intro i h;cases i with
  | zero=>simp[gBA]
  | succ i=>
   have e1:(i+1)*3=i*3+3:=dQ;have e2:(i+1)*3+1=i*3+1+3:=dQ;have e3:(i+1)*3+2=i*3+2+3:=dQ;obtain⟨h1,h2,h3⟩:=ih i (by simpa using h);rw[List.flatMap_cons,e2,e3,e1];refine⟨?_,?_,?_⟩;all_goals
    rw[List.getElem?_append_right (by simp[gBA])];simp only[gBA,List.length_cons,List.length_nil,Nat.zero_add,Nat.add_sub_cancel,List.getElem_cons_succ]
    assumption
theorem OwnC.row {w:World} {base:Nat} {a:Option Addr} {n cap:Nat} {L:List CycN} (h:OwnC w base (.slice a n cap) L):n=L.length/\RowC w a L:=by
 have h':=h;obtain⟨_,h2⟩:=h;rcases h2 with ⟨h2,R⟩|⟨g,e8,a5,e,hb,hh,i5,_⟩
 ·simp only[Value.slice.injEq] at h2;refine⟨dQ,fun h=>dQ⟩
 ·simp only[Value.slice.injEq] at e;obtain⟨rfl,rfl,rfl⟩:=e;refine⟨rfl,fun h0=>⟨g,0,rfl,(Array.getElem?_eq_some_iff.1 hh).1,fun i hi=>?_⟩⟩;obtain⟨c1,c2,c3⟩:=eFB L i hi;simp only[Nat.zero_add];exact⟨(World.ownsRow.cellAt h' (i*3) dQ).trans c1,(World.ownsRow.cellAt h' (i*3+1) dQ).trans c2,(World.ownsRow.cellAt h' (i*3+2) dQ).trans c3⟩
theorem RowC.below {w w':World} {a:Option Addr} {L:List CycN} (h:RowC w a L) (hb:Below w.heap.size w w'):RowC w' a L:=fun h0=>by
 obtain⟨g,o,rfl,U,hc⟩:=h h0;refine⟨g,o,rfl,Nat.lt_of_lt_of_le U hb.size,fun i hi=>?_⟩;obtain⟨h1,h2,h3⟩:=hc i hi;exact⟨fIA hb h1 U,fIA hb h2 U,fIA hb h3 U⟩
def SegC (w:World) (lo hi:Nat) (v:Value) (L:List CycN):Prop:=OwnC w lo v L/\∀ k,v.ownBlock=some k->k < hi
theorem SegC.below {w w':World} {lo hi:Nat} {v:Value} {L:List CycN} (h:SegC w lo hi v L) (hb:Below w.heap.size w w'):SegC w' lo hi v L:=⟨uDA h.1 hb,h.2⟩
theorem SegC.drew {w:World} {lo hi:Nat} {v:Value} {L:List CycN} (h:SegC w lo hi v L):SegC w.drew lo hi v L:=h
theorem SegC.span {w w':World} {lo hi d0 c7:Nat} {v:Value} {L:List CycN} (h:SegC w lo hi v L) (hs:Span d0 c7 w w') (hd:hi<=d0\/c7<=lo):SegC w' lo hi v L:=by
 refine⟨?_,h.2⟩;obtain⟨h1,h2⟩:=h.1;refine⟨h1,?_⟩;rcases h2 with R|⟨g,cap,a5,hv,hb,U,b7⟩
 ·exact .inl R
 ·have i4:g < hi:=h.2 g (by rw[hv];rfl);exact .inr ⟨g,cap,a5,hv,hb,(hs.block g (Array.getElem?_eq_some_iff.1 U).1 dQ).trans U,b7⟩
theorem SegC.row {w:World} {lo hi:Nat} {a:Option Addr} {n cap:Nat} {L:List CycN} (h:SegC w lo hi (.slice a n cap) L):RowC w a L:=(OwnC.row h.1).2
def xEB (V:World) (r:CpuN×BusN) (e:Ending) (W:World):Prop:=
 ∃ a cap a2 H lo hi b5 a9,e=.returned (.tuple #[cpuV r.1,ramV (.slice a r.2.mem.length cap),.slice a2 r.2.log.length H])/\SegB W lo hi (.slice a r.2.mem.length cap) r.2.mem/\SegC W b5 a9 (.slice a2 r.2.log.length H) r.2.log /\
  (V.heap.size<=lo/\hi<=W.heap.size/\V.heap.size<=b5/\a9<=W.heap.size/\lo<=hi/\b5<=a9/\(hi<=b5\/a9<=lo))/\Below V.heap.size V W
theorem wAA.three {V W:World} {r:CpuN×BusN} {e:Ending} (h:wAA V r e W):xEB V r e W:=by
 obtain⟨v,u,rfl,ho,hc,hne,hb⟩:=h;have hz:=hb.size;have B1:∃ a cap,v=.slice a r.2.mem.length cap/\((∃ g,v.ownBlock=some g/\V.heap.size<=g/\g < W.heap.size)\/v.ownBlock=none):=by
  obtain⟨h1,h2⟩:=ho.2;rcases h2 with ⟨R,h0⟩|⟨g,cp,a5,hv,U,hh,_⟩
  ·exact⟨none,0,by rw[R];rw[show r.2.mem.length=0 by simpa using h0],.inr (by rw[R];rfl)⟩
  ·exact⟨_,_,hv,.inl ⟨g,by rw[hv];rfl,U,(Array.getElem?_eq_some_iff.1 hh).1⟩⟩
 have B2:∃ a cap,u=.slice a r.2.log.length cap/\((∃ g,u.ownBlock=some g/\V.heap.size<=g/\g < W.heap.size)\/u.ownBlock=none):=by
  obtain⟨h1,h2⟩:=hc;rcases h2 with ⟨R,h0⟩|⟨g,cp,a5,hv,U,hh,_⟩
  ·exact⟨none,0,by rw[R];rw[show r.2.log.length=0 by simpa using h0],.inr (by rw[R];rfl)⟩
  ·exact⟨_,_,hv,.inl ⟨g,by rw[hv];rfl,U,(Array.getElem?_eq_some_iff.1 hh).1⟩⟩
 obtain⟨a,cap,rfl,A1⟩:=B1;obtain⟨a2,H,rfl,A2⟩:=B2;have a0:∀ n,(∀ k,(Value.slice a r.2.mem.length cap).ownBlock=some k->n<=k)->OwnB W n (.slice a r.2.mem.length cap) r.2.mem:=fun n R=>⟨ho.1,wBA ho.2 R⟩
 have a1:∀ n,(∀ k,(Value.slice a2 r.2.log.length H).ownBlock=some k->n<=k)->OwnC W n (.slice a2 r.2.log.length H) r.2.log:=fun n R=>wBA hc R
 rcases A1 with ⟨g,e1,g1,g2⟩|e1<;>rcases A2 with ⟨g',e2,g3,g4⟩|e2
 ·refine⟨a,cap,a2,H,g,g+1,g',g'+1,rfl,⟨a0 g ?_,?_⟩,⟨a1 g' ?_,?_⟩,⟨g1,g2,g3,g4,dQ,dQ,?_⟩,hb⟩
  ·intro k ek;rw[e1] at ek;simp only[Option.some.injEq] at ek;omega
  ·intro k ek;rw[e1] at ek;simp only[Option.some.injEq] at ek;omega
  ·intro k ek;rw[e2] at ek;simp only[Option.some.injEq] at ek;omega
  ·intro k ek;rw[e2] at ek;simp only[Option.some.injEq] at ek;omega
  ·have:g≠g':=fun e=>hne g e1 (by rw[e2,e])
   omega
 ·refine⟨a,cap,a2,H,g,g+1,W.heap.size,W.heap.size,rfl,⟨a0 g ?_,?_⟩,⟨a1 _ ?_,?_⟩,⟨g1,g2,hz,Nat.le_refl _,dQ,dQ,.inl dQ⟩,hb⟩
  ·intro k ek;rw[e1] at ek;simp only[Option.some.injEq] at ek;omega
  ·intro k ek;rw[e1] at ek;simp only[Option.some.injEq] at ek;omega
  ·intro k ek;rw[e2] at ek;cases ek
  ·intro k ek;rw[e2] at ek;cases ek
 ·refine⟨a,cap,a2,H,W.heap.size,W.heap.size,g',g'+1,rfl,⟨a0 _ ?_,?_⟩,⟨a1 g' ?_,?_⟩,⟨hz,Nat.le_refl _,g3,g4,dQ,dQ,.inr dQ⟩,hb⟩
  ·intro k ek;rw[e1] at ek;cases ek
  ·intro k ek;rw[e1] at ek;cases ek
  ·intro k ek;rw[e2] at ek;simp only[Option.some.injEq] at ek;omega
  ·intro k ek;rw[e2] at ek;simp only[Option.some.injEq] at ek;omega
 ·refine⟨a,cap,a2,H,W.heap.size,W.heap.size,W.heap.size,W.heap.size,rfl,⟨a0 _ ?_,?_⟩,⟨a1 _ ?_,?_⟩,⟨hz,Nat.le_refl _,hz,Nat.le_refl _,dQ,dQ,.inl dQ⟩,hb⟩
  ·intro k ek;rw[e1] at ek;cases ek
  ·intro k ek;rw[e1] at ek;cases ek
  ·intro k ek;rw[e2] at ek;cases ek
  ·intro k ek;rw[e2] at ek;cases ek
theorem alw (W:World) (o:Obj):Below W.heap.size W (W.alloc o):=(Below.refl _ _).alloc (Nat.le_refl _) _
theorem aHA {P:Program} {E:Array Oper} {Q:Exit->Act->World->Prop} {K:Act->World->Prop} {a:Act} {w:World} {i d:Nat} {f:FuncId} {xs:Array Operand} {b8:Array TypeId} {args:Array Value}
  (O:IsOp E i (some d) (.call ⟨.value (.func f),xs,b8⟩)) (T:xs.map a.eval=args) (a4:(callFunc f args).run P w=.ok (.enter f args) w)
  (hC:Calls P f args w fun e w'=>∃ v,e=.returned v/\K (a.put (some d) v) w'):wpOp P E Q i K a w:=by
 refine yWA O (fun o ho=>?_) hC;unfold execOp;rw[ho];dsimp only;unfold resolve;dsimp only;rw[T];show Sem.run P (callFunc f ((#[]++args)++#[])) w=_;rw[Array.append_empty,Array.empty_append];exact a4
theorem jEA {n:Nat} {V W w:World} (h:Below n V W) (k:Below W.heap.size W w) (R:n<=V.heap.size):Below n V w:=h.trans (k.mono (Nat.le_trans R h.size))
theorem dLA {w:World} {B:Nat} {v:Value} (h:BoxN w B 30 #[v]):(Instr.loadAt 30 (.pointer (some ⟨B,0,none⟩))).run Tryz.prog w=.ok (ramV v) w:=by
 have g0:=h.cell 0 _ rfl;simp[go_sem,g0]
theorem pGA {w:World} {B:Nat} {t:TypeId} {vs cs:Array Value} (h:BoxN w B t cs) (hz:cs.size=vs.size) (hi:(Tryz.prog.info? t).map (·.size)=some vs.size) (h1:vs.all (·.oneCell')=true) :
  ∃ w',(Instr.storeAt t (.pointer (some ⟨B,0,none⟩)) (.agg vs)).run Tryz.prog w=.ok () w'/\BoxN w' B t vs/\Span B (B+1) w w':=by
 refine⟨w.setRow B vs,?_,setRow_heap w B cs vs t (0,0) h,⟨rfl,rfl,rfl,by simp[World.setRow],fun k _ hk=>setRow_other w B k vs dQ⟩⟩;simp only[Instr.storeAt,Instr.sureAddr,Sem.run_bind,Sem.run_pure,Result.andThen];exact run_storeVar_row _ _ t t cs vs h hi hz h1
theorem bIA {w:World} {B:Nat} {a:Option Addr} {n cap:Nat} {cs:Array Value} (h:BoxN w B 30 cs) (hz:cs.size=1):∃ w',(Instr.storeAt 30 (.pointer (some ⟨B,0,none⟩)) (ramV (.slice a n cap))).run Tryz.prog w=.ok () w'/\BoxN w' B 30 #[.slice a n cap]/\Span B (B+1) w w':=
 pGA (vs:=#[.slice a n cap]) h hz gQ (by simp[dAA,Value.oneCell'])
theorem aIA {w:World} {B:Nat} {c:CpuN} {cs:Array Value} (h:BoxN w B 28 cs) (hz:cs.size=11):∃ w',(Instr.storeAt 28 (.pointer (some ⟨B,0,none⟩)) (cpuV c)).run Tryz.prog w=.ok () w'/\BoxN w' B 28 (dAA c)/\Span B (B+1) w w':=
 pGA (vs:=dAA c) h hz gQ (by simp[dAA,Value.oneCell'])
theorem nr {p q:Prop} (h:p\/q) (n:¬ p:=by decide):q:=h.resolve_left n
abbrev IsOpG (E:Array Oper) (i:Nat) (dst:Option Tmp) (op:Op) (g:Nat):Prop:=(E[i]?).map (fun o=>(o.dst,o.op,o.guard))=some (dst,op,some (g,true))
def CanOp (E:Array Oper) (i:Nat) (dst:Option Tmp) (op:Op) (a:Act):Prop:=∃ o,E[i]?=some o/\Region.wanted o (yielded E a.tmps)=true/\o.dst=dst/\o.op=op
theorem IsOpG.can {E:Array Oper} {i g d:Nat} {dst:Option Tmp} {op e7:Op} {a:Act} (h:IsOpG E i dst op g) (U:IsOp E g (some d) e7) (hs:a.eval (.tmp d)=.bool true):CanOp E i dst op a:=by
 obtain⟨o',h1,_,h3,_⟩:=isOp U;unfold IsOpG at h;cases ho:E[i]? with
 | none=>rw[ho] at h;cases h
 | some o=>
  rw[ho] at h;simp only[Option.map_some,Option.some.injEq,Prod.mk.injEq] at h;obtain⟨e1,e2,e3⟩:=h;refine⟨o,ho,?_,e1,e2⟩;have ht:a.tmps[d]?=some (.bool true):=by
   simp only[Act.eval,Array.getD_eq_getD_getElem?] at hs;cases hd:a.tmps[d]? with
   | none=>rw[hd] at hs;cases hs
   | some v=>rw[hd] at hs;simp only[Option.getD_some] at hs;rw[hs]
  have hy:yielded E a.tmps g=some true:=by
   unfold yielded;rw[h1];simp only[Option.bind_some,h3,ht]
  unfold Region.wanted;rw[e3];simp only[hy];rfl
section
variable {P:Program} {E:Array Oper} {Q:Exit->Act->World->Prop} {K:Act->World->Prop} {a:Act} {w w':World} {i d:Nat} {v:Value}
theorem gQA {o:Oper} (ho:E[i]?=some o) (U:Region.wanted o (yielded E a.tmps)=true) (h:Oper.wp P o a w K Q):wpOp P E Q i K a w:=by
 unfold wpOp;rw[ho];simp only[U,if_true];exact .inl h
theorem xCA {op:Op} (O:CanOp E i (some d) op a) (h:∀ o,o.op=op->(execOp a.eval o).run P w=.ok (.value v) w') (hK:K (a.put (some d) v) w'):wpOp P E Q i K a w:=by
 obtain⟨o,h1,h2,h3,h4⟩:=O;refine gQA h1 h2 ?_;unfold Oper.wp;rw[h o h4,Oper.upon_value,h3];exact hK
theorem ySA {op:Op} {f:FuncId} {args:Array Value} (O:CanOp E i (some d) op a) (h:∀ o,o.op=op->(execOp a.eval o).run P w=.ok (.enter f args) w)
  (hC:Calls P f args w fun e w'=>∃ v,e=.returned v/\K (a.put (some d) v) w'):wpOp P E Q i K a w:=by
 obtain⟨o,h1,h2,h3,h4⟩:=O;refine gQA h1 h2 ?_;unfold Oper.wp;rw[h o h4,Oper.upon_enter,h3];refine hC.mono ?_;rintro e i6 ⟨v,rfl,hk⟩;exact hk
theorem pFA {t:TypeId} {x:Operand} {p:Value} (O:CanOp E i (some d) (.load t x) a) (hs:a.eval x=p) (hr:(Instr.loadAt t p).run P w=.ok v w) (hK:K (a.put (some d) v) w):wpOp P E Q i K a w:=
 xCA O (fun o ho=>by unfold execOp;rw[ho];dsimp only;rw[hs,Sem.run_bind,hr];rfl) hK
theorem zNA {f:FuncId} {xs:Array Operand} {b8:Array TypeId} {args:Array Value} (O:CanOp E i (some d) (.call ⟨.value (.func f),xs,b8⟩) a) (T:xs.map a.eval=args) (a4:(callFunc f args).run P w=.ok (.enter f args) w)
  (hC:Calls P f args w fun e w'=>∃ v,e=.returned v/\K (a.put (some d) v) w'):wpOp P E Q i K a w:=by
 refine ySA O (fun o ho=>?_) hC;unfold execOp;rw[ho];dsimp only;unfold resolve;dsimp only;rw[T];show Sem.run P (callFunc f ((#[]++args)++#[])) w=_;rw[Array.append_empty,Array.empty_append];exact a4
end

end Go.Proofs.YtckfdbjjjgfbfaaGreat
