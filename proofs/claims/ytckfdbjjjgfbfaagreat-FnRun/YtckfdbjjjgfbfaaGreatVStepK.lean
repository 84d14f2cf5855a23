import Derived.Test.YtckfdbjjjgfbfaaGreatVStepH
set_option linter.unusedVariables false
set_option linter.unusedSimpArgs false
set_option maxRecDepth 100000
set_option maxHeartbeats 1000000
namespace Go.Proofs.YtckfdbjjjgfbfaaGreat
open Go.RowKit
theorem oZA (F:Nat->Prop) (B:Nat) (b:BusN) (c:CpuN) (hc:c.ok) (z:Nat) (E:z < 256) (i:Nat) (hid:opId z=i) (hi:i ∈ [1,2,3,4,6,7,8,14,24,25,26,31]) (R:iAA z=2) (hk:eAA z=2) (sz:Nat) (J:sAA z=(sz:Int)) (d0:sz<=3) (hf:b.fit 10) (w:World) (hF:∀ i,w.heap.size<=i->F i) (h:BusAt w F B b) :
  Calls Tryz.prog 84 #[.pointer (some ⟨B,0,none⟩),cpuV c,.int .u8 z] w fun e w'=>e=.returned (cpuV (dataN b c z).1)/\BusAt w' F B (dataN b c z).2/\Turn F w w':=by
 have b8:=hc;obtain⟨hA,hX,hY,hS,hP⟩:=hc;have hN:lAA z=opTx i:=qQg;obtain⟨p,hp⟩:∃ r_,(c.PC+sz) % 65536=r_:=⟨_,rfl⟩;have pb:p < 65536:=dQ;have HN:=j_ hN;have HM:=j_ R;have HK:=j_ hk;have b6:=j_ J;have HI:=j_ hid;obtain⟨z1,hz1⟩:∃ r_,b.get (c.PC+1)=r_:=⟨_,rfl⟩;obtain⟨b1,hb1⟩:∃ r_,b.rd (c.PC+1)=r_:=⟨_,rfl⟩;obtain⟨u,hu⟩:∃ r_,useL c (opTx i).toList z1=r_:=⟨_,rfl⟩;have c9:z1 < 256:=by rw[<-hz1];exact h.byte _
 have HP:dataN b c z=({ u with PC:=p },b1):=by
  simp[dataN,hN,R,hk,J,hp,hz1,hb1,hu]
 rw[HP];dsimp only;have S0:=Sit.two h hF (.cells (dAA c) 28) (.cells gAA 28);have q0:BoxN ((w.alloc (.cells (dAA c) 28)).alloc (.cells gAA 28)) w.heap.size 28 (dAA c):=(BoxN.new _ _ _).below ((Below.refl _ _).alloc (Nat.le_refl _) _);have y0:BoxN ((w.alloc (.cells (dAA c) 28)).alloc (.cells gAA 28)) (w.heap.size+1) 28 gAA:=by
  have:=BoxN.new (w.alloc (.cells (dAA c) 28)) 28 gAA
  rwa [World.size_alloc] at this
 have Hp:=j_ hp;have Hz1:=j_ hz1;have Hb1:=j_ hb1;have Hu:=j_ hu;clear HP hp hz1 hb1 hu;go_enter Tryz.func84,Tryz.ntmps84;clear hN R hk J hid;go_wp2_with fail;refine (uFA z E HI.out _).mono ?_;rintro e w2 ⟨rfl,d1⟩;have q3:=q0.below d1;have S4:=S0.below d1;have y5:=y0.below d1;clear q0 S0 d1 y0;go_wp2_with fail;refine (zGA z E HM.out _).mono ?_;rintro e w7 ⟨rfl,d6⟩;have q8:=q3.below d6;have S9:=S4.below d6;have a9:=y5.below d6;clear q3 S4 d6 y5;go_wp2_with fail;refine (tFA z E HK.out _).mono ?_;rintro e d7 ⟨rfl,d11⟩;have a8:=q8.below d11;have a5:=S9.below d11;have b4:=a9.below d11;clear q8 S9 d11 a9;go_wp2_with fail;refine (yJA z E b6.out _).mono ?_;rintro e d8 ⟨rfl,d16⟩;have a2:=a8.below d16;have a6:=a5.below d16;have b5:=b4.below d16;clear a8 a5 d16 b4;have a1:IntKind.u16.wrap ((c.PC:Int)+(sz:Int))=((p:Nat):Int):=qQe;have b7:=j_ a1;clear a1;obtain⟨g0,g1,g2,g3,g4,g5,g6,g7,g8,g9,g10,f0⟩:=eleven a2;go_wp2_with fail;clear g0 g1 g2 g3 g4 g5 g6 g7 g8 g9 g10 f0;have c7:IntKind.i64.wrap (c.PC:Int)=(c.PC:Int):=IntWalk.i64_in _ dQ;have c8:IntKind.i64.wrap ((c.PC:Int)+1)=(c.PC:Int)+1:=IntWalk.i64_in _ dQ;obtain⟨g0,g1,g2,g3,g4,g5,g6,g7,g8,g9,g10,f0⟩:=eleven a2.drew;go_region_with (first|(go_at_call 76;refine (a6.drew.rd _ (c.PC+1) dQ dQ (hf.mono dQ) Hz1.out Hb1.out).mono ?_;rintro e wR ⟨rfl,tR⟩;(have qR:=tR.box _ _ _ (Nat.le_refl _) dQ a2.drew);clear g0 g1 g2 g3 g4 g5 g6 g7 g8 g9 g10 f0;obtain⟨g0,g1,g2,g3,g4,g5,g6,g7,g8,g9,g10,f0⟩:=eleven qR)|(go_at_call 113;refine (zYA i hi c b8 z1 c9 Hu.out _).mono ?_;rintro e wU ⟨rfl,dU⟩;(have qU:=qR.below dU);clear g0 g1 g2 g3 g4 g5 g6 g7 g8 g9 g10 f0;obtain⟨g0,g1,g2,g3,g4,g5,g6,g7,g8,g9,g10,f0⟩:=eleven qU));all_goals
  clear c7 c8 g0 g1 g2 g3 g4 g5 g6 g7 g8 g9 g10 f0;have SU:=tR.sit.below dU;have yU:=(tR.box _ _ _ dQ dQ b5.drew).below dU;clear tR dU qR a2 a6 b5;have a3:BoxN (set11 wU w.heap.size (.int .u8 (u.A:Int)) (.int .u8 (u.X:Int)) (.int .u8 (u.Y:Int)) (.int .u8 (u.S:Int)) (.int .u16 (u.PC:Int)) (.bool u.N) (.bool u.V) (.bool u.D) (.bool u.I) (.bool u.Z) (.bool u.C)) w.heap.size 28 (dAA u):=fFA qU (.int .u8 (u.A:Int)) (.int .u8 (u.X:Int)) (.int .u8 (u.Y:Int)) (.int .u8 (u.S:Int)) (.int .u16 (u.PC:Int)) (.bool u.N) (.bool u.V) (.bool u.D) (.bool u.I) (.bool u.Z) (.bool u.C);have a0:Sit F w 2 B (set11 wU w.heap.size (.int .u8 (u.A:Int)) (.int .u8 (u.X:Int)) (.int .u8 (u.Y:Int)) (.int .u8 (u.S:Int)) (.int .u16 (u.PC:Int)) (.bool u.N) (.bool u.V) (.bool u.D) (.bool u.I) (.bool u.Z) (.bool u.C)) b1:=SU.eleven (.int .u8 (u.A:Int)) (.int .u8 (u.X:Int)) (.int .u8 (u.Y:Int)) (.int .u8 (u.S:Int)) (.int .u16 (u.PC:Int)) (.bool u.N) (.bool u.V) (.bool u.D) (.bool u.I) (.bool u.Z) (.bool u.C) (Nat.le_refl _) dQ;have a4:BoxN (set11 wU w.heap.size (.int .u8 (u.A:Int)) (.int .u8 (u.X:Int)) (.int .u8 (u.Y:Int)) (.int .u8 (u.S:Int)) (.int .u16 (u.PC:Int)) (.bool u.N) (.bool u.V) (.bool u.D) (.bool u.I) (.bool u.Z) (.bool u.C)) (w.heap.size+1) 28 gAA:=eCA yU dQ (.int .u8 (u.A:Int)) (.int .u8 (u.X:Int)) (.int .u8 (u.Y:Int)) (.int .u8 (u.S:Int)) (.int .u16 (u.PC:Int)) (.bool u.N) (.bool u.V) (.bool u.D) (.bool u.I) (.bool u.Z) (.bool u.C);clear qU SU yU;change BoxN (((((((((((wU.setCell ⟨w.heap.size,0,none⟩ (.int .u8 (u.A:Int))).setCell ⟨w.heap.size,1,none⟩ (.int .u8 (u.X:Int))).setCell ⟨w.heap.size,2,none⟩ (.int .u8 (u.Y:Int))).setCell ⟨w.heap.size,3,none⟩ (.int .u8 (u.S:Int))).setCell ⟨w.heap.size,4,none⟩ (.int .u16 (u.PC:Int))).setCell ⟨w.heap.size,5,none⟩ (.bool u.N)).setCell ⟨w.heap.size,6,none⟩ (.bool u.V)).setCell ⟨w.heap.size,7,none⟩ (.bool u.D)).setCell ⟨w.heap.size,8,none⟩ (.bool u.I)).setCell ⟨w.heap.size,9,none⟩ (.bool u.Z)).setCell ⟨w.heap.size,10,none⟩ (.bool u.C)) _ _ _ at a3;change Sit _ _ _ _ (((((((((((wU.setCell ⟨w.heap.size,0,none⟩ (.int .u8 (u.A:Int))).setCell ⟨w.heap.size,1,none⟩ (.int .u8 (u.X:Int))).setCell ⟨w.heap.size,2,none⟩ (.int .u8 (u.Y:Int))).setCell ⟨w.heap.size,3,none⟩ (.int .u8 (u.S:Int))).setCell ⟨w.heap.size,4,none⟩ (.int .u16 (u.PC:Int))).setCell ⟨w.heap.size,5,none⟩ (.bool u.N)).setCell ⟨w.heap.size,6,none⟩ (.bool u.V)).setCell ⟨w.heap.size,7,none⟩ (.bool u.D)).setCell ⟨w.heap.size,8,none⟩ (.bool u.I)).setCell ⟨w.heap.size,9,none⟩ (.bool u.Z)).setCell ⟨w.heap.size,10,none⟩ (.bool u.C)) _ at a0;change BoxN (((((((((((wU.setCell ⟨w.heap.size,0,none⟩ (.int .u8 (u.A:Int))).setCell ⟨w.heap.size,1,none⟩ (.int .u8 (u.X:Int))).setCell ⟨w.heap.size,2,none⟩ (.int .u8 (u.Y:Int))).setCell ⟨w.heap.size,3,none⟩ (.int .u8 (u.S:Int))).setCell ⟨w.heap.size,4,none⟩ (.int .u16 (u.PC:Int))).setCell ⟨w.heap.size,5,none⟩ (.bool u.N)).setCell ⟨w.heap.size,6,none⟩ (.bool u.V)).setCell ⟨w.heap.size,7,none⟩ (.bool u.D)).setCell ⟨w.heap.size,8,none⟩ (.bool u.I)).setCell ⟨w.heap.size,9,none⟩ (.bool u.Z)).setCell ⟨w.heap.size,10,none⟩ (.bool u.C)) _ _ _ at a4;generalize ((((((((((wU.setCell ⟨w.heap.size,0,none⟩ (.int .u8 (u.A:Int))).setCell ⟨w.heap.size,1,none⟩ (.int .u8 (u.X:Int))).setCell ⟨w.heap.size,2,none⟩ (.int .u8 (u.Y:Int))).setCell ⟨w.heap.size,3,none⟩ (.int .u8 (u.S:Int))).setCell ⟨w.heap.size,4,none⟩ (.int .u16 (u.PC:Int))).setCell ⟨w.heap.size,5,none⟩ (.bool u.N)).setCell ⟨w.heap.size,6,none⟩ (.bool u.V)).setCell ⟨w.heap.size,7,none⟩ (.bool u.D)).setCell ⟨w.heap.size,8,none⟩ (.bool u.I)).setCell ⟨w.heap.size,9,none⟩ (.bool u.Z)).setCell ⟨w.heap.size,10,none⟩ (.bool u.C)=wV at a3 a0 a4 ⊢;have uP:u.PC=c.PC:=by rw[<-Hu.out];exact sEB _ _ _
  have a1:IntKind.u16.wrap ((u.PC:Int)+(sz:Int))=((p:Nat):Int):=by rw[uP];exact b7.out
  have d4:u.PC < 65536:=dQ;clear uP;obtain⟨g0,g1,g2,g3,g4,g5,g6,g7,g8,g9,g10,f0⟩:=eleven a3;obtain⟨h0,h1,h2,h3,h4,h5,h6,h7,h8,h9,h10,f1⟩:=eleven a4;have HS:=j_ a0;clear a0 a3 a4;go_wp2;refine bodyPost_ret (v:=cpuV ({ u with PC:=p })) (by simp[results,Tryz.results84,go_sem,g0,g1,g2,g3,g4,g5,g6,g7,g8,g9,g10,h0,h1,h2,h3,h4,h5,h6,h7,h8,h9,h10,a1]) rfl ⟨rfl,?_⟩;refine Sit.out (k:=2) ?_;all_goals exact jQ
def qDA:List Int:=[3,4,5,6,7,8,10,11]
theorem op_k1 {b:Nat} (hb:b < 256):eAA b=1->(iAA b=0/\opId b ∈ [17,18,19,20,21,22,37,38,39,40,49,50,51,52,53,54,55,56])\/(iAA b=1/\opId b ∈ [9,10,11,12]):=
 uBA (p:=fun b=>eAA b=1->(iAA b=0/\opId b ∈ [17,18,19,20,21,22,37,38,39,40,49,50,51,52,53,54,55,56])\/(iAA b=1/\opId b ∈ [9,10,11,12])) cQb hb
theorem op_k2 {b:Nat} (hb:b < 256):eAA b=2->opId b ∈ [1,2,3,4,6,7,8,14,24,25,26,31]/\(iAA b=2\/iAA b ∈ qDA):=
 uBA (p:=fun b=>eAA b=2->opId b ∈ [1,2,3,4,6,7,8,14,24,25,26,31]/\(iAA b=2\/iAA b ∈ qDA)) cQb hb
theorem op_k3 {b:Nat} (hb:b < 256):eAA b=3->opId b ∈ [5,13,23]/\iAA b ∈ qDA:=
 uBA (p:=fun b=>eAA b=3->opId b ∈ [5,13,23]/\iAA b ∈ qDA) cQb hb
theorem op_k4 {b:Nat} (hb:b < 256):eAA b=4->opId b ∈ [9,10,11,12,15,16]/\iAA b ∈ qDA:=
 uBA (p:=fun b=>eAA b=4->opId b ∈ [9,10,11,12,15,16]/\iAA b ∈ qDA) cQb hb
theorem op_k5 {b:Nat} (hb:b < 256):eAA b=5->opId b ∈ [41,42,43,44,45,46,47,48]:=
 uBA (p:=fun b=>eAA b=5->opId b ∈ [41,42,43,44,45,46,47,48]) cQb hb
theorem op_k6 {b:Nat} (hb:b < 256):eAA b≠0/\eAA b≠1/\eAA b≠2/\eAA b≠3/\eAA b≠4/\eAA b≠5->opId b=32/\(iAA b=6\/iAA b=9)\/opId b=28/\iAA b=6\/iAA b=0/\(opId b=30\/opId b=29\/opId b=27\/opId b ∈ [33,34,35,36]):=
 uBA (p:=fun b=>eAA b≠0/\eAA b≠1/\eAA b≠2/\eAA b≠3/\eAA b≠4/\eAA b≠5->opId b=32/\(iAA b=6\/iAA b=9)\/opId b=28/\iAA b=6\/iAA b=0/\(opId b=30\/opId b=29\/opId b=27\/opId b ∈ [33,34,35,36])) cQb hb
theorem op_ks {b:Nat} (hb:b < 256):0<=sAA b/\sAA b<=3:=
 uBA (p:=fun b=>0<=sAA b/\sAA b<=3) cQb hb
theorem op_k0 {b:Nat} (hb:b < 256):eAA b=0↔opId b=0:=
 uBA (p:=fun b=>eAA b=0↔opId b=0) cQb hb
theorem nGA {m:Int} (h:m ∈ qDA):m=3\/m=4\/m=5\/m=6\/m=7\/m=8\/m=10\/m=11:=by simpa [qDA] using h
theorem nZA (F:Nat->Prop) (B:Nat) (b:BusN) (c:CpuN) (hc:c.ok) (z:Nat) (E:z < 256) (hk:eAA z=2\/eAA z=3\/eAA z=4) (hf:b.fit 10) (w:World) (hF:∀ i,w.heap.size<=i->F i) (h:BusAt w F B b) {r:CpuN×BusN} (hr:dataN b c z=r) :
  Calls Tryz.prog 84 #[.pointer (some ⟨B,0,none⟩),cpuV c,.int .u8 z] w fun e w'=>e=.returned (cpuV r.1)/\BusAt w' F B r.2/\Turn F w w':=by
 subst hr;have k2:=op_k2 E;have k3:=op_k3 E;have k4:=op_k4 E;have ks:=op_ks E;obtain⟨sz,J⟩:∃ n:Nat,sAA z=(n:Int):=⟨(sAA z).toNat,dQ⟩;rcases hk with hk|hk|hk
 ·obtain⟨hi,R⟩:=k2 hk;rcases R with R|R
  ·exact oZA F B b c hc z E _ rfl hi R hk sz J dQ hf w hF h
  ·exact iXA F B b c hc z E _ rfl hi _ rfl (nGA R) hk sz J dQ hf w hF h
 ·obtain⟨hi,R⟩:=k3 hk;exact eUA F B b c hc z E _ rfl hi _ rfl (nGA R) hk sz J dQ hf w hF h
 ·obtain⟨hi,R⟩:=k4 hk;exact pZA F B b c hc z E _ rfl hi _ rfl (nGA R) hk sz J dQ hf w hF h
def jamsN (L:List Nat) (K:Nat):Bool:=ramN L.length && decide (opId (peekL L K)=0)
theorem mGA {L:List Nat} {w:World} {a:Option Addr} (h:RowB w a L) (K:Nat):peekL L K < 256:=by
 unfold peekL;split
 ·exact h.byte' _
 ·omega
theorem aEA (a:Option Addr) (cap K:Nat) (L:List Nat) (c0:K < 65536) (w:World) (hr:RowB w a L) :
  Calls Tryz.prog 43 #[ramV (.slice a L.length cap),.int .u16 K] w fun e w'=>e=.returned (.bool (jamsN L K))/\Below w.heap.size w w':=by
 have HO:=fun w=>pBA a L.length cap w
 cases h:ramN L.length with
 | false=>
  have e:jamsN L K=false:=by unfold jamsN;rw[h];rfl
  rw[e];rw[h] at HO;clear h e;go_enter Tryz.func43,Tryz.ntmps43;go_wp2_with fail;refine (HO _).mono ?_;rintro e U ⟨rfl,d1⟩;have b1:=bstep ((Below.refl _ w).alloc (Nat.le_refl _) _) d1;go_wp2;go_ret;exact⟨rfl,b1⟩
 | true=>
  obtain⟨x,hx⟩:∃ x,peekL L K=x:=⟨_,rfl⟩;have a7:x < 256:=by rw[<-hx];exact mGA hr K
  obtain⟨i,hi⟩:∃ i,opId x=i:=⟨_,rfl⟩;have b9:i<=56:=by rw[<-hi];exact pTA a7
  have e:jamsN L K=decide (i=0):=by unfold jamsN;rw[h,hx,hi];rfl
  have hE:=jIA b9;rw[e];rw[h] at HO;have HX:=j_ hx;have HI:=j_ hi;have HR:=j_ hr;have HE:=j_ hE;obtain⟨T,hT⟩:∃ T,opTx i=T:=⟨_,rfl⟩;rw[hT] at hE;have HT:=j_ hT;clear h e hx hi hr hT;go_enter Tryz.func43,Tryz.ntmps43;go_wp2_with fail;refine (HO _).mono ?_;rintro e U ⟨rfl,d1⟩;have q1:=(iIA d1).1;have b1:=(iIA d1).2;have c1:=q1.cell 0 _ rfl;clear d1;go_wp2_with fail;refine (uPA a cap K L c0 _ (RowB.below HR.out b1)).mono ?_;rintro e w2 ⟨rfl,d2⟩;have b2:=bstep b1 d2;clear b1 d2 c1 q1;rw[HX.out];go_wp2_with fail;refine (uFA x a7 HI.out _).mono ?_;rintro e w3 ⟨rfl,d3⟩;have b3:=bstep b2 d3;clear b2 d3;rw[HT.out];go_wp2;go_ret;refine⟨?_,b3⟩;first|rfl|(rw[hE])|(simp[hE])
theorem lCA {w U:World} {cs rs zs us:Array Value} {t u v x:TypeId} (hb:Below ((((w.alloc (.cells cs t)).alloc (.cells rs u)).alloc (.cells zs v)).alloc (.cells us x)).heap.size ((((w.alloc (.cells cs t)).alloc (.cells rs u)).alloc (.cells zs v)).alloc (.cells us x)) U) :
  BoxN U w.heap.size t cs/\BoxN U (w.heap.size+1) u rs/\BoxN U (w.heap.size+1+1) v zs/\BoxN U (w.heap.size+1+1+1) x us/\Below w.heap.size w U/\w.heap.size+4<=U.heap.size:=by
 have al:∀ (W:World) (o:Obj),Below W.heap.size W (W.alloc o):=fun W o=>(Below.refl _ _).alloc (Nat.le_refl _) _
 have h0:=((((BoxN.new w t cs).below (al _ (.cells rs u))).below (al _ (.cells zs v))).below (al _ (.cells us x))).below hb;have h1:=(((BoxN.new (w.alloc (.cells cs t)) u rs).below (al _ (.cells zs v))).below (al _ (.cells us x))).below hb;have h2:=((BoxN.new ((w.alloc (.cells cs t)).alloc (.cells rs u)) v zs).below (al _ (.cells us x))).below hb;have h3:=(BoxN.new (((w.alloc (.cells cs t)).alloc (.cells rs u)).alloc (.cells zs v)) x us).below hb;simp only[World.size_alloc] at h1 h2 h3;have hz:=hb.size;simp only[World.size_alloc] at hz;refine⟨h0,h1,h2,h3,?_,dQ⟩;exact bstep (bstep (bstep (bstep (al w _) (al _ _)) (al _ _)) (al _ _)) hb
def stepN (c:CpuN) (L:List Nat):CpuN×BusN:=
 if ramN L.length=true then (if jamsN L c.PC=true then (c,⟨L,[]⟩) else opN ⟨L,[]⟩ c) else (cpu0,⟨[],[]⟩)
def wAA (w:World) (r:CpuN×BusN) (e:Ending) (w':World):Prop:=
 ∃ v u,e=.returned (.tuple #[cpuV r.1,ramV v,u])/\OwnB w' w.heap.size v r.2.mem/\OwnC w' w.heap.size u r.2.log/\(∀ k,v.ownBlock=some k->u.ownBlock≠some k)/\Below w.heap.size w w'
theorem wBA {w:World} {base n len k:Nat} {t:TypeId} {v:Value} {L:List Value} (h:w.ownsRow base t k v len L) (hn:∀ g,v.ownBlock=some g->n<=g):w.ownsRow n t k v len L:=by
 obtain⟨h1,h2⟩:=h;refine⟨h1,?_⟩;rcases h2 with h2|⟨g,cap,O,rfl,hb,H⟩
 ·exact .inl h2
 ·exact .inr ⟨g,cap,O,rfl,hn g rfl,H⟩
abbrev newF (w:World):Nat->Prop:=fun i=>w.heap.size<=i
theorem Sit.rows {w W:World} {k B:Nat} {b:BusN} (s:Sit (newF w) w k B W b):∃ g cap v,W.cell? ⟨B,0,none⟩=some (.slice (some ⟨g,0,none⟩) b.mem.length cap)/\W.cell? ⟨B,1,none⟩=some v/\B < W.heap.size/\w.heap.size+k<=B /\
  OwnB W w.heap.size (.slice (some ⟨g,0,none⟩) b.mem.length cap) b.mem/\OwnC W w.heap.size v b.log/\(∀ j,v.ownBlock=some j->w.heap.size+k<=j/\j≠g)/\w.heap.size+k<=g:=by
 obtain⟨g,cap,v,hb,ho,hc,fB,fg,hne,fv⟩:=s.bus;refine⟨g,cap,v,hb.cell 0 _ rfl,hb.cell 1 _ rfl,hb.lt,?_,⟨ho.1,wBA ho.2 (fun j ej=>?_)⟩,wBA hc (fun j ej=>?_),fun j ej=>⟨?_,(fv j ej).2.2⟩,?_⟩
 ·have h1:w.heap.size<=B:=fB.1;rcases fB.2 with h|h<;>omega
 ·simp only[Value.ownBlock,Option.some.injEq] at ej;subst ej;exact fg.1
 ·exact (fv j ej).1.1
 ·have h1:w.heap.size<=j:=(fv j ej).1.1;rcases (fv j ej).1.2 with h|h<;>omega
 ·have h1:w.heap.size<=g:=fg.1;rcases fg.2 with h|h<;>omega
theorem Span.inn {W W1:World} {lo hi B k:Nat} (h:Span lo hi W W1) (v:Value) (h1:lo<=B) (h2:B < hi):Span lo hi W (W1.setCell ⟨B,k,none⟩ v):=
 h.trans ((Span.set W1 B k v).wide h1 dQ)
theorem Span.refl (lo hi:Nat) (W:World):Span lo hi W W:=Span.of_below _ _ (Below.refl _ _)
theorem Span.more {W W1:World} {lo hi:Nat} (h:Span lo hi W W1) (o:Obj):Span lo hi W (W1.alloc o):=h.trans (Span.of_below _ _ ((Below.refl _ _).alloc (Nat.le_refl _) _))
theorem Span.drew {W W1:World} {lo hi:Nat} (h:Span lo hi W W1):Span lo hi W W1.drew:=h.trans (Span.of_below _ _ (Below.refl _ _).drew)
theorem Turn.new {w W:World} (h:Turn (newF w) w W):Below w.heap.size w W:=h.below (fun i hi hf=>by have:w.heap.size<=i:=hf;omega) (Nat.le_refl _)
theorem wAA.of {w W W':World} {k B:Nat} {b:BusN} {c:CpuN} {g cap:Nat} {v:Value} (s:Sit (newF w) w k B W b)
  (ho:OwnB W w.heap.size (.slice (some ⟨g,0,none⟩) b.mem.length cap) b.mem) (hc:OwnC W w.heap.size v b.log) (hv:∀ j,v.ownBlock=some j->w.heap.size+k<=j/\j≠g) (hg:w.heap.size+k<=g)
  (hs:Span w.heap.size (w.heap.size+k) W W'):wAA w (c,b) (.returned (.tuple #[cpuV c,ramV (.slice (some ⟨g,0,none⟩) b.mem.length cap),v])) W':=by
 have kept:∀ j,j < W.heap.size->w.heap.size+k<=j->W'.heap[j]?=W.heap[j]?:=fun j hj hk=>hs.block j hj (.inr hk)
 refine⟨_,_,rfl,⟨ho.1,?_⟩,?_,fun j ej=>?_,s.turn.new.trans (hs.below (Nat.le_refl _) (by have:=s.size;omega))⟩
 ·obtain⟨h1,h2⟩:=ho.2;refine⟨h1,?_⟩;rcases h2 with h2|⟨g',Q,O,e,hb,hh,H⟩
  ·exact .inl h2
  ·simp only[Value.slice.injEq,Option.some.injEq,Addr.mk.injEq] at e;obtain⟨⟨rfl,_⟩,_,rfl⟩:=e;exact .inr ⟨g,cap,O,rfl,hb,(kept g (Array.getElem?_eq_some_iff.1 hh).1 hg).trans hh,H⟩
 ·obtain⟨h1,h2⟩:=hc;refine⟨h1,?_⟩;rcases h2 with h2|⟨g',Q,O,rfl,hb,hh,H⟩
  ·exact .inl h2
  ·exact .inr ⟨g',Q,O,rfl,hb,(kept g' (Array.getElem?_eq_some_iff.1 hh).1 (hv g' rfl).1).trans hh,H⟩
 ·simp only[Value.ownBlock,Option.some.injEq] at ej;subst ej;intro e;exact (hv _ e).2 rfl
theorem dMA (w:World) {base:Nat} (hb:base<=w.heap.size):OwnC (w.alloc (.cells #[] 91)) base (.slice (some ⟨w.heap.size,0,none⟩) 0 0) []:=by
 refine⟨rfl,.inr ⟨w.heap.size,0,#[],rfl,hb,World.alloc_heap_new _ _,yQ,nQe,rfl,rfl⟩⟩
theorem pEB (c:CpuN) (a:Option Addr) (cap:Nat) (L:List Nat) (h:ramN L.length=false) (w:World) :
  Calls Tryz.prog 44 #[cpuV c,ramV (.slice a L.length cap)] w (wAA w (cpu0,⟨[],[]⟩)):=by
 have HO:=fun w=>pBA a L.length cap w
 rw[h] at HO;clear h;go_enter Tryz.func44,Tryz.ntmps44;go_wp2_with fail;refine (HO _).mono ?_;rintro e U ⟨rfl,d1⟩;obtain⟨q0,r0,y0,x0,b0,z0⟩:=lCA d1;obtain⟨h0,h1,h2,h3,h4,h5,h6,h7,h8,h9,h10,f1⟩:=eleven y0;have x0c:=x0.cell 0 _ rfl;have fx:=fun k=>x0.frozen k
 have n0:=y0.lt;have n1:=x0.lt;have B0:=j_ b0;clear d1 q0 r0 y0 x0 b0 HO;go_wp2;refine bodyPost_ret (v:=.tuple #[cpuV cpu0,ramV (.slice none 0 0),.slice (some ⟨U.heap.size,0,none⟩) 0 0]) (by simp[results,Tryz.results44,go_sem,h0,h1,h2,h3,h4,h5,h6,h7,h8,h9,h10,x0c,cpu0,n0,n1]) rfl ⟨_,_,rfl,vDA _ _,?_,fun k ek=>bQb,?_⟩
 ·have:=dMA (((set11 U (w.heap.size+1+1) (.int .u8 0) (.int .u8 0) (.int .u8 0) (.int .u8 0) (.int .u16 0) (.bool false) (.bool false) (.bool false) (.bool false) (.bool false) (.bool false)).setCell ⟨w.heap.size+1+1+1,0,none⟩ (.slice none 0 0))) (base:=w.heap.size) qQ;simpa using this
 ·have hW:=B0.out;all_goals exact aQ
theorem Sit.start {w w4:World} {g4 c4 base:Nat} {L:List Nat} (hb:Below w.heap.size w w4) (hz:w.heap.size+4<=w4.heap.size) (ho:OwnB w4 base (.slice (some ⟨g4,0,none⟩) L.length c4) L) (hg:w.heap.size+4<=g4) :
  Sit (newF w) w 4 w4.heap.size (w4.alloc (.cells #[.slice (some ⟨g4,0,none⟩) L.length c4,.slice none 0 0] 121)) ⟨L,[]⟩:=by
 have hl:=((World.ownsRow.lt ho.2) g4 rfl).2;refine⟨⟨g4,c4,.slice none 0 0,BoxN.new _ _ _,?_,World.ownsRow_nil _ _ _ _,⟨?_,.inr hz⟩,⟨?_,.inr hg⟩,dQ,fun k ek=>bQb⟩,Turn.of_below (hb.alloc dQ _),by rw[World.size_alloc];omega,fun i hi=>hi⟩
 ·exact (OwnB.base ho (Nat.zero_le _)).below ((Below.refl _ _).alloc (Nat.le_refl _) _)
 ·show w.heap.size<=w4.heap.size;omega
 ·show w.heap.size<=g4;omega
theorem fHA {L:List Nat} {K:Nat} (h:ramN L.length=true) (hp:K < 65536):(⟨L,[]⟩:BusN).get K=peekL L K:=by
 unfold BusN.get BusN.spot peekL;rw[if_pos h];dsimp only;rw[Nat.mod_eq_of_lt hp]
theorem iGB {W:World} {n base:Nat} (hW:W.heap.size=n) (hb:base<=n):OwnC (W.alloc (.cells #[] 91)).drew base (.slice (some ⟨n,0,none⟩) 0 0) []:=by
 subst hW;exact dMA W hb
theorem OwnB.spanned {W W':World} {v:Value} {L:List Nat} {base lo hi:Nat} (h:OwnB W base v L) (hs:Span lo hi W W') (hd:∀ k,v.ownBlock=some k->hi<=k):OwnB W' base v L:=by
 obtain⟨h0,h1,h2⟩:=h;refine⟨h0,h1,?_⟩;rcases h2 with h2|⟨g',Q,O,rfl,hb,hh,H⟩
 ·exact .inl h2
 ·exact .inr ⟨g',Q,O,rfl,hb,(hs.block g' (Array.getElem?_eq_some_iff.1 hh).1 (.inr (hd g' rfl))).trans hh,H⟩
theorem cDB (c:CpuN) (l:List UInt8) (m:Int):(impL c l m).PC=c.PC:=by
 simp only[impL,flagL,regL,CpuN.chg,CpuN.nz,apply_ite CpuN.PC,ite_self]
theorem wFB (i:Nat) (m:Int) (h:(m=0/\i ∈ [17,18,19,20,21,22,37,38,39,40,49,50,51,52,53,54,55,56])\/(m=1/\i ∈ [9,10,11,12])) (c:CpuN) (hc:c.ok) {u:CpuN} (hu:impL c (opTx i).toList m=u) (w:World) :
  Calls Tryz.prog 81 #[cpuV c,.string (opTx i),.int .i64 m] w fun e w'=>e=.returned (cpuV u)/\Below w.heap.size w w':=by
 subst hu;rcases h with ⟨rfl,hi⟩|⟨rfl,hi⟩
 ·exact imp_any i hi c hc w
 ·exact acc_any i hi c hc w

end Go.Proofs.YtckfdbjjjgfbfaaGreat
