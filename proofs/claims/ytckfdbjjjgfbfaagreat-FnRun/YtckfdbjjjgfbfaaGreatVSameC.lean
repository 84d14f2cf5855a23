import Derived.Test.YtckfdbjjjgfbfaaGreatVRunA
set_option linter.unusedVariables false
set_option linter.unusedSimpArgs false
set_option maxRecDepth 100000
set_option maxHeartbeats 4000000
namespace Go.Proofs.YtckfdbjjjgfbfaaGreat
open Go.RowKit
abbrev xBA (c:CpuN) (m t s p:Value) (j:Bool) (ev:Value) (k:Nat):Array Value:=(cQ c [m,t,s,p,.bool j,ev,.int .i64 k]).toArray
theorem dYA {P:Program} {H:Array Oper} {Q:Exit->Act->World->Prop} {K:Act->World->Prop} {a:Act} {w w':World} {i d:Nat} {t:TypeId} {x y:Operand} {p q v:Value}
  (l0:IsOp H i (some d) (.call { callee:=.builtin .append,args:=#[x,y],argTypes:=#[t,t] })) (hx:a.eval x=p) (hy:a.eval y=q) (hr:∀ ty,(Builtin.append_ #[t,t] ty #[p,q]).run P w=.ok v w') (hK:K (a.put (some d) v) w'):wpOp P H Q i K a w:=
 qAA l0 (fun o ho=>by
  unfold execOp;rw[ho];simp only[resolve,invoke,builtin,Sem.run_bind,Sem.run_pure,Result.andThen_ok,List.map_toArray,List.map_cons,List.map_nil,hx,hy,hr]) hK
theorem lZA {w:World} {gb:Nat} {L:List Nat} {ax:Option Addr} (k8:BoxN w gb 5 #[]) (hl:L.length<=1048576) (h0:0 < L.length) (hr:RowB w ax L) (cx:Nat) :
  ∃ b5 w',(∀ ty,(Builtin.append_ #[22,22] ty #[.slice (some ⟨gb,0,none⟩) 0 0,.slice ax L.length cx]).run Tryz.prog w=.ok (.slice (some ⟨w.heap.size,0,none⟩) L.length b5) w')/\SegB w' w.heap.size (w.heap.size+1) (.slice (some ⟨w.heap.size,0,none⟩) L.length b5) L/\Below w.heap.size w w'/\w.heap.size+1<=w'.heap.size:=by
 obtain⟨i0,hi,hz0,hz1,j3⟩:=info_parts yEA;obtain⟨g,o,rfl,hg,hc⟩:=hr.2 h0;have b7:∀ j u,(L.map u8V)[j]?=some u->w.cell? ((⟨g,o,none⟩:Addr).add j)=some u:=fun j u hu=>by
  rw[Addr.add_mid];have hj:j < L.length:=by simpa using (List.getElem?_eq_some_iff.1 hu).1
  rw[hc j hj,<-hu];simp[List.getD,hj]
 have b2:=fun ty=>run_append_grow (P:=Tryz.prog) w 22 ty 5 i0 (.int .u8 0) Tryz.underlying22 hi hz0 ⟨gb,0,none⟩ 0 0 [] yQ (fun j v hv=>by simp at hv) ⟨g,o,none⟩ L.length cx (L.map u8V) (by simp[hz1]) b7 dQ dQ (by rw[j3,Nat.zero_add,nextslicecap_zero h0];omega)
 have b8:w.ownsRow 0 5 1 (.slice (some ⟨gb,0,none⟩) 0 0) 0 []:=⟨yQ,.inr ⟨gb,0,#[],rfl,Nat.zero_le _,k8,Nat.le_refl _,nQe,yQ,yQ⟩⟩;obtain⟨g',b5,w',j2,b9,m3,m0,j1⟩:=run_append_lies (P:=Tryz.prog) w 22 0 0 5 i0 (.int .u8 0) 1 1 Tryz.underlying22 hi hz0 hz1 j3 rfl iQ (.slice (some ⟨gb,0,none⟩) 0 0) 0 [] b8 ⟨g,o,none⟩ L.length cx (L.map u8V) yQ b7 (fun u hu=>iFA L u hu) h0 nQe dQ (Nat.zero_le _) w.heap.size rfl;have h2:=b2 0;simp only[Nat.zero_add] at j2 h2 b2 b9;rw[j2] at h2;simp only[Result.ok.injEq,Value.slice.injEq,Option.some.injEq,Addr.mk.injEq,and_true,true_and] at h2;obtain⟨⟨rfl,rfl⟩,rfl⟩:=h2;refine⟨_,_,b2,⟨⟨hr.1,wBA (base:=0) (by simpa using b9) (fun k ek=>lQc)⟩,fun k ek=>lQc⟩,((Below.refl _ w).drew).alloc yQ _,yQ⟩
theorem yFB {w:World} {B:Nat} {a:Option Addr} {n c:Nat} (h:BoxN w B 30 #[.slice a n c]):(Instr.loadAt 22 (.pointer (some ⟨B,0,none⟩))).run Tryz.prog w=.ok (.slice a n c) w:=by
 have g0:=h.cell 0 _ rfl;simp[go_sem,g0]
theorem iJA {w:World} {B:Nat} {c:CpuN} (h:BoxN w B 28 (dAA c)):(Instr.loadAt 28 (.pointer (some ⟨B,0,none⟩))).run Tryz.prog w=.ok (cpuV c) w:=jAA h 0 (dAA c) gQ gQ gQ
theorem sCB (w:World):∃ cs:Array Value,(Instr.alloc 38 true (.tuple #[])).run Tryz.prog w=.ok (.pointer (some ⟨w.heap.size,0,none⟩)) (w.alloc (.cells cs 38))/\cs.size=16:=by
 refine⟨(zQ [.slice none 0 0,.slice none 0 0,.slice none 0 0,.slice none 0 0,.bool false]).toArray,?_,rfl⟩;simp[go_sem]
theorem qEB {w:World} {B:Nat} {c:CpuN} {a:Option Addr} {n k:Nat} {cs:Array Value} (h:BoxN w B 38 cs) (hz:cs.size=16):∃ w',(Instr.storeAt 38 (.pointer (some ⟨B,0,none⟩)) (.agg (lBA c (.slice a n k) (.slice none 0 0) (.slice none 0 0) (.slice none 0 0) false))).run Tryz.prog w=.ok () w'/\BoxN w' B 38 (lBA c (.slice a n k) (.slice none 0 0) (.slice none 0 0) (.slice none 0 0) false)/\Span B (B+1) w w':=
 pGA (vs:=lBA c (.slice a n k) (.slice none 0 0) (.slice none 0 0) (.slice none 0 0) false) h hz gQ gQ
theorem aXA (w:World):∃ cs:Array Value,(Instr.alloc 83 true (.tuple #[])).run Tryz.prog w=.ok (.pointer (some ⟨w.heap.size,0,none⟩)) (w.alloc (.cells cs 83))/\cs.size=18:=by
 refine⟨(zQ [.slice none 0 0,.slice none 0 0,.slice none 0 0,.slice none 0 0,.bool false,.slice none 0 0,.int .i64 0]).toArray,?_,rfl⟩;simp[go_sem]
theorem uYA {w:World} {B:Nat} {c:CpuN} {a b:Option Addr} {n k n2 k2:Nat} {cs:Array Value} (h:BoxN w B 83 cs) (hz:cs.size=18):∃ w',(Instr.storeAt 83 (.pointer (some ⟨B,0,none⟩)) (.agg (xBA c (.slice a n k) (.slice none 0 0) (.slice none 0 0) (.slice none 0 0) false (.slice b n2 k2) 0))).run Tryz.prog w=.ok () w'/\BoxN w' B 83 (xBA c (.slice a n k) (.slice none 0 0) (.slice none 0 0) (.slice none 0 0) false (.slice b n2 k2) 0)/\Span B (B+1) w w':=
 pGA (vs:=xBA c (.slice a n k) (.slice none 0 0) (.slice none 0 0) (.slice none 0 0) false (.slice b n2 k2) 0) h hz gQ gQ
theorem gMA (H:Array Oper) (h:pAA 3 (Tryz.f9.body.getD .skip)=some H):vCA H=true/\H.size=9/\IsOp H 0 (some 27) (.load 28 (.tmp 4))/\IsOp H 1 (some 28) (.buildSlice 22 0 #[])/\IsOp H 2 (some 29) (.fieldAddr 30 (.tmp 5) 0)/\IsOp H 3 (some 30) (.load 22 (.tmp 29))/\IsOp H 4 (some 31) (.call { callee:=.builtin .append,args:=#[.tmp 28,.tmp 30],argTypes:=#[22,22] })/\IsOp H 5 (some 32) (.build 30 #[(0,.tmp 31)])/\IsOp H 6 (some 33) (.build 38 #[(0,.tmp 27),(1,.tmp 32)])/\IsOp H 7 (some 9) (.alloc 38)/\IsOp H 8 none (.store 38 (.tmp 9) (.tmp 33))/\Waits H 3 2/\Waits H 4 1/\Waits H 4 3/\Waits H 5 4/\Waits H 6 0/\Waits H 6 5/\Waits H 8 7/\Waits H 8 6:=by
 obtain rfl:H=(pAA 3 (Tryz.f9.body.getD .skip)).getD #[]:=jQi;exact⟨gQ,gQ,lQ,lQ,lQ,lQ,lQ,lQ,lQ,lQ,lQ,kQ,kQ,kQ,kQ,kQ,kQ,kQ,kQ⟩
abbrev vPA (c:CpuN) (L:List Nat) (sa:Option Addr) (cap:Nat) (R:Nat) (V:World) (a0:Act) (D:Nat->Prop) (a:Act) (w:World):Prop:=
 xAA a0 [9,27,28,29,30,31,32,33] a/\Below V.heap.size V w/\∃ (g:Nat) (J:Nat) (b0:Nat) (P:Nat),(D 0->a.eval (.tmp 27)=cpuV c)/\(D 1->a.eval (.tmp 28)=.slice (some ⟨b0,0,none⟩) 0 0/\(BoxN w b0 5 #[])/\b0+1<=w.heap.size)/\(D 2->a.eval (.tmp 29)=.pointer (some ⟨R,0,none⟩))/\(D 3->a.eval (.tmp 30)=.slice sa L.length cap)/\(D 4->a.eval (.tmp 31)=.slice (some ⟨g,0,none⟩) L.length J/\SegB w g (g+1) (.slice (some ⟨g,0,none⟩) L.length J) (L)/\(V.heap.size<=g)/\g+1<=w.heap.size/\D 1)/\(D 5->a.eval (.tmp 32)=.agg #[.slice (some ⟨g,0,none⟩) L.length J]/\D 1/\D 4)/\(D 6->a.eval (.tmp 33)=.agg (lBA c (.slice (some ⟨g,0,none⟩) L.length J) (.slice none 0 0) (.slice none 0 0) (.slice none 0 0) false)/\D 1/\D 4)/\(D 7->a.eval (.tmp 9)=.pointer (some ⟨P,0,none⟩)/\(V.heap.size<=P)/\(∃ cs:Array Value,BoxN w P 38 cs/\cs.size=16)/\P+1<=w.heap.size)/\(D 8->BoxN w P 38 (lBA c (.slice (some ⟨g,0,none⟩) L.length J) (.slice none 0 0) (.slice none 0 0) (.slice none 0 0) false)/\(V.heap.size<=P)/\D 1/\D 4/\D 7)/\(D 1->D 7->(b0+1<=P\/P+1<=b0))/\(D 4->D 7->(g+1<=P\/P+1<=g))
theorem lVA (c:CpuN) (L:List Nat) (sa:Option Addr) (cap:Nat) (hl:L.length<=1048576) (h0:0 < L.length) (V:World) (C R:Nat) (hC:BoxN V C 28 (dAA c)) (hR:BoxN V R 30 #[.slice sa L.length cap]) (hrow:RowB V sa L) (a0:Act) (h4:a0.eval (.tmp 4)=.pointer (some ⟨C,0,none⟩)) (h5:a0.eval (.tmp 5)=.pointer (some ⟨R,0,none⟩)) (i6:a0.tmps.size=124) (Q:Exit->Act->World->Prop)
  (hQ:∀ a w,xAA a0 [9,27,28,29,30,31,32,33] a->(∃ g J P,a.eval (.tmp 9)=.pointer (some ⟨P,0,none⟩)/\BoxN w P 38 (lBA c (.slice (some ⟨g,0,none⟩) L.length J) (.slice none 0 0) (.slice none 0 0) (.slice none 0 0) false)/\SegB w g (g+1) (.slice (some ⟨g,0,none⟩) L.length J) L/\(V.heap.size<=g/\V.heap.size<=P/\g≠P/\g < w.heap.size/\P < w.heap.size)/\Below V.heap.size V w)->Q .normal a w)
  (H:Array Oper) (b1:pAA 3 (Tryz.f9.body.getD .skip)=some H) (id:Nat):(Code.region id H true).wp Tryz.prog Q a0 V:=by
 obtain⟨i4,hn,o0,o1,o2,o3,o4,o5,o6,o7,o8,c0,j6,j7,c7,j9,k1,k6,k5⟩:=gMA H b1;clear b1;refine vBA gQ i4 (vPA c L sa cap R V a0) ?_ ?_ id a0 V ?_
 ·intro i i5 D a w hnd O hI;obtain⟨hf,hb,g,J,b0,P,f0,f1,f2,f3,f4,f5,f6,f7,f8,x0,x1⟩:=hI;rw[hn] at i5;have hz:a.tmps.size=124:=hf.size.trans i6;have b3:=hb.size;have T:=Below.refl w.heap.size w;have K0:∀ {d:Nat} {v:Value},(hd:27≠d:=by decide)->(nn:¬ 0=i:=by decide)->(0=i\/D 0)->(a.put (some d) v).eval (.tmp 27)=cpuV c:=fun {d v} hd nn h=>lQa
  have K1:∀ {d:Nat} {v:Value} {w':World},Below w.heap.size w w'->(hd:28≠d:=by decide)->(nn:¬ 1=i:=by decide)->(1=i\/D 1)->(a.put (some d) v).eval (.tmp 28)=.slice (some ⟨b0,0,none⟩) 0 0/\(BoxN w' b0 5 #[])/\b0+1<=w'.heap.size:=fun {d v w'} hbw hd nn h=>by have h:=h.resolve_left nn;obtain⟨g0,g1,g2⟩:=f1 h;exact⟨((aAA hd).trans g0),(g1.below hbw),(Nat.le_trans g2 hbw.size)⟩
  have K2:∀ {d:Nat} {v:Value},(hd:29≠d:=by decide)->(nn:¬ 2=i:=by decide)->(2=i\/D 2)->(a.put (some d) v).eval (.tmp 29)=.pointer (some ⟨R,0,none⟩):=fun {d v} hd nn h=>rQa
  have K3:∀ {d:Nat} {v:Value},(hd:30≠d:=by decide)->(nn:¬ 3=i:=by decide)->(3=i\/D 3)->(a.put (some d) v).eval (.tmp 30)=.slice sa L.length cap:=fun {d v} hd nn h=>sQa
  have K4:∀ {d:Nat} {v:Value} {w':World},Below w.heap.size w w'->(hd:31≠d:=by decide)->(nn:¬ 4=i:=by decide)->(4=i\/D 4)->(a.put (some d) v).eval (.tmp 31)=.slice (some ⟨g,0,none⟩) L.length J/\SegB w' g (g+1) (.slice (some ⟨g,0,none⟩) L.length J) (L)/\(V.heap.size<=g)/\g+1<=w'.heap.size/\(1=i\/D 1):=fun {d v w'} hbw hd nn h=>by have h:=h.resolve_left nn;obtain⟨g0,g1,g2,g3,g4⟩:=f4 h;exact⟨((aAA hd).trans g0),(g1.below hbw),g2,(Nat.le_trans g3 hbw.size),(Or.inr g4)⟩
  have K5:∀ {d:Nat} {v:Value},(hd:32≠d:=by decide)->(nn:¬ 5=i:=by decide)->(5=i\/D 5)->(a.put (some d) v).eval (.tmp 32)=.agg #[.slice (some ⟨g,0,none⟩) L.length J]/\(1=i\/D 1)/\(4=i\/D 4):=fun {d v} hd nn h=>by have h:=h.resolve_left nn;obtain⟨g0,g1,g2⟩:=f5 h;exact⟨((aAA hd).trans g0),(Or.inr g1),(Or.inr g2)⟩
  have K6:∀ {d:Nat} {v:Value},(hd:33≠d:=by decide)->(nn:¬ 6=i:=by decide)->(6=i\/D 6)->(a.put (some d) v).eval (.tmp 33)=.agg (lBA c (.slice (some ⟨g,0,none⟩) L.length J) (.slice none 0 0) (.slice none 0 0) (.slice none 0 0) false)/\(1=i\/D 1)/\(4=i\/D 4):=fun {d v} hd nn h=>by have h:=h.resolve_left nn;obtain⟨g0,g1,g2⟩:=f6 h;exact⟨((aAA hd).trans g0),(Or.inr g1),(Or.inr g2)⟩
  have K7:∀ {d:Nat} {v:Value} {w':World},Below w.heap.size w w'->(hd:9≠d:=by decide)->(nn:¬ 7=i:=by decide)->(7=i\/D 7)->(a.put (some d) v).eval (.tmp 9)=.pointer (some ⟨P,0,none⟩)/\(V.heap.size<=P)/\(∃ cs:Array Value,BoxN w' P 38 cs/\cs.size=16)/\P+1<=w'.heap.size:=fun {d v w'} hbw hd nn h=>by have h:=h.resolve_left nn;obtain⟨g0,g1,g2,g3⟩:=f7 h;exact⟨((aAA hd).trans g0),g1,(by obtain⟨cs,hcs,hcz⟩:=g2;exact⟨cs,hcs.below hbw,hcz⟩),(Nat.le_trans g3 hbw.size)⟩
  have K8:∀ {w':World},Below w.heap.size w w'->(nn:¬ 8=i:=by decide)->(8=i\/D 8)->BoxN w' P 38 (lBA c (.slice (some ⟨g,0,none⟩) L.length J) (.slice none 0 0) (.slice none 0 0) (.slice none 0 0) false)/\(V.heap.size<=P)/\(1=i\/D 1)/\(4=i\/D 4)/\(7=i\/D 7):=fun {w'} hbw nn h=>by have h:=h.resolve_left nn;obtain⟨g0,g1,g2,g3,g4⟩:=f8 h;exact⟨(g0.below hbw),g1,(Or.inr g2),(Or.inr g3),(Or.inr g4)⟩
  obtain (rfl|rfl|rfl|rfl|rfl|rfl|rfl|rfl|rfl):i=0\/i=1\/i=2\/i=3\/i=4\/i=5\/i=6\/i=7\/i=8:=dQ
  ·refine aCA o0 ((hf.eval iQ).trans h4) (iJA (hC.below hb)) ?_;exact⟨hf.put iQ _,hb,g,J,b0,P,fun _=>bAA pQ,K1 T,K2,K3,K4 T,K5,K6,K7 T,K8 T,fun h1 h2=>x0 (nr h1) (nr h2),fun h1 h2=>x1 (nr h1) (nr h2)⟩
  ·refine fPA (v:=.slice (some ⟨w.heap.size,0,none⟩) 0 0) (w':=w.alloc (.cells #[] 5)) o1 (by simp[go_sem]) ?_;have hbw:=alw w (.cells #[] 5);have U:=jEA hb hbw (Nat.le_refl _);exact⟨hf.put iQ _,U,g,J,w.heap.size,P,K0,fun _=>⟨bAA pQ,BoxN.new _ _ _,Nat.le_of_eq (World.size_alloc _ _).symm⟩,K2,K3,fun h=>by have h':=(nr h);obtain⟨g0,g1,g2,g3,g4⟩:=f4 h';exact absurd g4 hnd,fun h=>by have h':=(nr h);obtain⟨g0,g1,g2⟩:=f5 h';exact absurd g1 hnd,fun h=>by have h':=(nr h);obtain⟨g0,g1,g2⟩:=f6 h';exact absurd g1 hnd,K7 hbw,fun h=>by have h':=(nr h);obtain⟨g0,g1,g2,g3,g4⟩:=f8 h';exact absurd g2 hnd,fun h1 h2=>by have h':=(nr h2);obtain⟨g0,g1,g2,g3⟩:=f7 h';omega,fun h1 h2=>x1 (nr h1) (nr h2)⟩
  ·refine qAA (v:=.pointer (some ⟨R,0,none⟩)) (w':=w) o2 (fun o ho=>by unfold execOp;rw[ho];dsimp only;rw[(hf.eval iQ).trans h5];simp[go_sem]) ?_;exact⟨hf.put iQ _,hb,g,J,b0,P,K0,K1 T,fun _=>bAA pQ,K3,K4 T,K5,K6,K7 T,K8 T,fun h1 h2=>x0 (nr h1) (nr h2),fun h1 h2=>x1 (nr h1) (nr h2)⟩
  ·have d2:=waits c0 O;have e2_0:=f2 d2;refine aCA o3 e2_0 (yFB (hR.below hb)) ?_;exact⟨hf.put iQ _,hb,g,J,b0,P,K0,K1 T,K2,fun _=>bAA pQ,K4 T,K5,K6,K7 T,K8 T,fun h1 h2=>x0 (nr h1) (nr h2),fun h1 h2=>x1 (nr h1) (nr h2)⟩
  ·have d1:=waits j6 O;obtain⟨e1_0,c9,i7⟩:=f1 d1;have d3:=waits j7 O;have a5:=f3 d3;obtain⟨l5,w',b2,b8,hbw,j1⟩:=lZA c9 hl h0 (RowB.below hrow hb) cap;refine dYA o4 e1_0 a5 b2 ?_;have U:=jEA hb hbw (Nat.le_refl _);exact⟨hf.put iQ _,U,w.heap.size,l5,b0,P,K0,K1 hbw,K2,K3,fun _=>⟨bAA pQ,b8,b3,j1,Or.inr d1⟩,fun h=>by have h':=(nr h);obtain⟨g0,g1,g2⟩:=f5 h';exact absurd g2 hnd,fun h=>by have h':=(nr h);obtain⟨g0,g1,g2⟩:=f6 h';exact absurd g2 hnd,K7 hbw,fun h=>by have h':=(nr h);obtain⟨g0,g1,g2,g3,g4⟩:=f8 h';exact absurd g3 hnd,fun h1 h2=>x0 (nr h1) (nr h2),fun h1 h2=>by have h':=(nr h2);obtain⟨g0,g1,g2,g3⟩:=f7 h';omega⟩
  ·have d4:=waits c7 O;obtain⟨e4_0,e4,e6,e7,e8⟩:=f4 d4;refine qAA (v:=.agg #[.slice (some ⟨g,0,none⟩) L.length J]) (w':=w) o5 (fun o ho=>by unfold execOp;rw[ho];dsimp only;simp only[List.map_toArray,List.map_cons,List.map_nil,e4_0,oAA];simp[go_sem]) ?_;exact⟨hf.put iQ _,hb,g,J,b0,P,K0,K1 T,K2,K3,K4 T,fun _=>⟨bAA pQ,Or.inr e8,Or.inr d4⟩,K6,K7 T,K8 T,fun h1 h2=>x0 (nr h1) (nr h2),fun h1 h2=>x1 (nr h1) (nr h2)⟩
  ·have d0:=waits j9 O;have e0_0:=f0 d0;have d5:=waits k1 O;obtain⟨e5_0,a6,e9⟩:=f5 d5;refine qAA (v:=.agg (lBA c (.slice (some ⟨g,0,none⟩) L.length J) (.slice none 0 0) (.slice none 0 0) (.slice none 0 0) false)) (w':=w) o6 (fun o ho=>by unfold execOp;rw[ho];dsimp only;simp only[List.map_toArray,List.map_cons,List.map_nil,e0_0,e5_0,oAA];simp[go_sem,lBA,dAA]) ?_;exact⟨hf.put iQ _,hb,g,J,b0,P,K0,K1 T,K2,K3,K4 T,K5,fun _=>⟨bAA pQ,Or.inr a6,Or.inr e9⟩,K7 T,K8 T,fun h1 h2=>x0 (nr h1) (nr h2),fun h1 h2=>x1 (nr h1) (nr h2)⟩
  ·obtain⟨cs,i3,hcz⟩:=sCB w;refine ePA o7 i3 ?_;have hbw:Below w.heap.size w (w.alloc (.cells cs 38)):=(Below.refl _ _).alloc (Nat.le_refl _) _;have U:=jEA hb hbw (Nat.le_refl _);exact⟨hf.put iQ _,U,g,J,b0,w.heap.size,K0,K1 hbw,K2,K3,K4 hbw,K5,K6,fun _=>⟨bAA pQ,b3,⟨cs,BoxN.new _ _ _,hcz⟩,Nat.le_of_eq (World.size_alloc _ _).symm⟩,fun h=>by have h':=(nr h);obtain⟨g0,g1,g2,g3,g4⟩:=f8 h';exact absurd g4 hnd,fun h1 h2=>by have h':=(nr h1);obtain⟨g0,g1,g2⟩:=f1 h';omega,fun h1 h2=>by have h':=(nr h1);obtain⟨g0,g1,g2,g3,g4⟩:=f4 h';omega⟩
  ·have d7:=waits k6 O;obtain⟨e7_0,a8,b6,i1⟩:=f7 d7;have d6:=waits k5 O;obtain⟨e6_0,a3,a7⟩:=f6 d6;obtain⟨cs,hcs,hcz⟩:=b6;obtain⟨w',hst,a9,hsp⟩:=qEB hcs hcz;refine mDA o8 e7_0 e6_0 hst ?_;have U:=hb.trans (hsp.below a8 b3);exact⟨hf,U,g,J,b0,P,fun h=>wQa,fun h=>by have h':=(nr h);have:=x0 h' d7;obtain⟨g0,g1,g2⟩:=f1 h';exact⟨g0,(g1.span hsp dQ),(Nat.le_trans g2 hsp.size)⟩,fun h=>hQc,fun h=>iQc,fun h=>by have h':=(nr h);have:=x1 h' d7;obtain⟨g0,g1,g2,g3,g4⟩:=f4 h';exact⟨g0,(g1.span hsp dQ),g2,(Nat.le_trans g3 hsp.size),(Or.inr g4)⟩,fun h=>by have h':=(nr h);obtain⟨g0,g1,g2⟩:=f5 h';exact⟨g0,(Or.inr g1),(Or.inr g2)⟩,fun h=>by have h':=(nr h);obtain⟨g0,g1,g2⟩:=f6 h';exact⟨g0,(Or.inr g1),(Or.inr g2)⟩,fun h=>by have h':=(nr h);obtain⟨g0,g1,g2,g3⟩:=f7 h';exact⟨g0,g1,⟨_,a9,rfl⟩,(Nat.le_trans g3 hsp.size)⟩,fun _=>⟨a9,a8,Or.inr a3,Or.inr a7,Or.inr d7⟩,fun h1 h2=>x0 (nr h1) (nr h2),fun h1 h2=>x1 (nr h1) (nr h2)⟩
 ·intro D a w hD hI;obtain⟨hf,hb,g,J,b0,P,f0,f1,f2,f3,f4,f5,f6,f7,f8,x0,x1⟩:=hI;rw[hn] at hD;have e0_0:=f0 (hD 0 iQ);obtain⟨e1_0,c9,i7⟩:=f1 (hD 1 iQ);have e2_0:=f2 (hD 2 iQ);have a5:=f3 (hD 3 iQ);obtain⟨e4_0,e4,e6,e7,e8⟩:=f4 (hD 4 iQ);obtain⟨e5_0,a6,e9⟩:=f5 (hD 5 iQ);obtain⟨e6_0,a3,a7⟩:=f6 (hD 6 iQ);obtain⟨e7_0,a8,b6,i1⟩:=f7 (hD 7 iQ);obtain⟨i2,l6,l7,l8,l9⟩:=f8 (hD 8 iQ);have y0:=x0 (hD 1 iQ) (hD 7 iQ);have y1:=x1 (hD 4 iQ) (hD 7 iQ);exact hQ a w hf ⟨g,J,P,e7_0,i2,e4,⟨e6,a8,dQ,e7,i2.lt⟩,hb⟩
 ·exact⟨xAA.refl _ _,(Below.refl _ _).drew,0,0,0,0,fun h=>False.elim h,fun h=>False.elim h,fun h=>False.elim h,fun h=>False.elim h,fun h=>False.elim h,fun h=>False.elim h,fun h=>False.elim h,fun h=>False.elim h,fun h=>False.elim h,fun h=>False.elim h,fun h=>False.elim h⟩
theorem wLA (H:Array Oper) (h:pAA 3 (Tryz.f8.body.getD .skip)=some H):vCA H=true/\H.size=8/\IsOp H 0 (some 27) (.load 28 (.tmp 4))/\IsOp H 1 (some 28) (.load 30 (.tmp 5))/\IsOp H 2 (some 29) (.call ⟨.value (.func 38),#[.tmp 28,.const (.int .u16 0),.const (.slice none 0 0)],#[30,24,22]⟩)/\IsOp H 3 (some 30) (.build 38 #[(0,.tmp 27),(1,.tmp 29)])/\IsOp H 4 (some 31) (.move (.tmp 2))/\IsOp H 5 (some 32) (.build 83 #[(0,.tmp 30),(1,.tmp 31)])/\IsOp H 6 (some 9) (.alloc 83)/\IsOp H 7 none (.store 83 (.tmp 9) (.tmp 32))/\Waits H 2 1/\Waits H 3 0/\Waits H 3 2/\Waits H 5 3/\Waits H 5 4/\Waits H 7 6/\Waits H 7 5:=by
 obtain rfl:H=(pAA 3 (Tryz.f8.body.getD .skip)).getD #[]:=jQi;exact⟨gQ,gQ,lQ,lQ,lQ,lQ,lQ,lQ,lQ,lQ,kQ,kQ,kQ,kQ,kQ,kQ,kQ⟩
abbrev wOA (c:CpuN) (L M:List Nat) (sa:Option Addr) (cap:Nat) (ax:Option Addr) (n ec:Nat) (V:World) (a0:Act) (D:Nat->Prop) (a:Act) (w:World):Prop:=
 xAA a0 [9,27,28,29,30,31,32] a/\Below V.heap.size V w/\∃ (ma:Option Addr) (J:Nat) (lo:Nat) (hi:Nat) (P:Nat),(D 0->a.eval (.tmp 27)=cpuV c)/\(D 1->a.eval (.tmp 28)=ramV (.slice sa L.length cap))/\(D 2->a.eval (.tmp 29)=ramV (.slice ma M.length J)/\SegB w lo hi (.slice ma M.length J) (M)/\(V.heap.size<=lo/\lo<=hi)/\hi<=w.heap.size)/\(D 3->a.eval (.tmp 30)=.agg (lBA c (.slice ma M.length J) (.slice none 0 0) (.slice none 0 0) (.slice none 0 0) false)/\D 2)/\(D 4->a.eval (.tmp 31)=.slice ax n ec)/\(D 5->a.eval (.tmp 32)=.agg (xBA c (.slice ma M.length J) (.slice none 0 0) (.slice none 0 0) (.slice none 0 0) false (.slice ax n ec) 0)/\D 2)/\(D 6->a.eval (.tmp 9)=.pointer (some ⟨P,0,none⟩)/\(V.heap.size<=P)/\(∃ cs:Array Value,BoxN w P 83 cs/\cs.size=18)/\P+1<=w.heap.size)/\(D 7->BoxN w P 83 (xBA c (.slice ma M.length J) (.slice none 0 0) (.slice none 0 0) (.slice none 0 0) false (.slice ax n ec) 0)/\(V.heap.size<=P)/\D 2/\D 6)/\(D 2->D 6->(hi<=P\/P+1<=lo))
theorem nUA (c:CpuN) (L M:List Nat) (sa:Option Addr) (cap:Nat) (ax:Option Addr) (n ec:Nat) (V:World) (C R:Nat) (hC:BoxN V C 28 (dAA c)) (hR:BoxN V R 30 #[.slice sa L.length cap]) (HF:∀ W:World,Below V.heap.size V W->Calls Tryz.prog 38 #[ramV (.slice sa L.length cap),.int .u16 0,.slice none 0 0] W fun e w'=>∃ v,e=.returned (ramV v)/\OwnB w' W.heap.size v M/\Below W.heap.size W w') (a0:Act) (h4:a0.eval (.tmp 4)=.pointer (some ⟨C,0,none⟩)) (h5:a0.eval (.tmp 5)=.pointer (some ⟨R,0,none⟩)) (h2:a0.eval (.tmp 2)=.slice ax n ec) (i6:a0.tmps.size=37) (Q:Exit->Act->World->Prop)
  (hQ:∀ a w,xAA a0 [9,27,28,29,30,31,32] a->(∃ ma J lo hi P,a.eval (.tmp 9)=.pointer (some ⟨P,0,none⟩)/\BoxN w P 83 (xBA c (.slice ma M.length J) (.slice none 0 0) (.slice none 0 0) (.slice none 0 0) false (.slice ax n ec) 0)/\SegB w lo hi (.slice ma M.length J) M/\(V.heap.size<=lo/\lo<=hi/\hi<=w.heap.size/\V.heap.size<=P/\(P+1<=lo\/hi<=P)/\P < w.heap.size)/\Below V.heap.size V w)->Q .normal a w)
  (H:Array Oper) (b1:pAA 3 (Tryz.f8.body.getD .skip)=some H) (id:Nat):(Code.region id H true).wp Tryz.prog Q a0 V:=by
 obtain⟨i4,hn,o0,o1,o2,o3,o4,o5,o6,o7,j4,j5,c0,j8,c7,k4,k3⟩:=wLA H b1;clear b1;refine vBA gQ i4 (wOA c L M sa cap ax n ec V a0) ?_ ?_ id a0 V ?_
 ·intro i i5 D a w hnd O hI;obtain⟨hf,hb,ma,J,lo,hi,P,f0,f1,f2,f3,f4,f5,f6,f7,x0⟩:=hI;rw[hn] at i5;have hz:a.tmps.size=37:=hf.size.trans i6;have b3:=hb.size;have T:=Below.refl w.heap.size w;have K0:∀ {d:Nat} {v:Value},(hd:27≠d:=by decide)->(nn:¬ 0=i:=by decide)->(0=i\/D 0)->(a.put (some d) v).eval (.tmp 27)=cpuV c:=fun {d v} hd nn h=>lQa
  have K1:∀ {d:Nat} {v:Value},(hd:28≠d:=by decide)->(nn:¬ 1=i:=by decide)->(1=i\/D 1)->(a.put (some d) v).eval (.tmp 28)=ramV (.slice sa L.length cap):=fun {d v} hd nn h=>qQa
  have K2:∀ {d:Nat} {v:Value} {w':World},Below w.heap.size w w'->(hd:29≠d:=by decide)->(nn:¬ 2=i:=by decide)->(2=i\/D 2)->(a.put (some d) v).eval (.tmp 29)=ramV (.slice ma M.length J)/\SegB w' lo hi (.slice ma M.length J) (M)/\(V.heap.size<=lo/\lo<=hi)/\hi<=w'.heap.size:=fun {d v w'} hbw hd nn h=>by have h:=h.resolve_left nn;obtain⟨g0,g1,g2,g3⟩:=f2 h;exact⟨((aAA hd).trans g0),(g1.below hbw),g2,(Nat.le_trans g3 hbw.size)⟩
  have K3:∀ {d:Nat} {v:Value},(hd:30≠d:=by decide)->(nn:¬ 3=i:=by decide)->(3=i\/D 3)->(a.put (some d) v).eval (.tmp 30)=.agg (lBA c (.slice ma M.length J) (.slice none 0 0) (.slice none 0 0) (.slice none 0 0) false)/\(2=i\/D 2):=fun {d v} hd nn h=>by have h:=h.resolve_left nn;obtain⟨g0,g1⟩:=f3 h;exact⟨((aAA hd).trans g0),(Or.inr g1)⟩
  have K4:∀ {d:Nat} {v:Value},(hd:31≠d:=by decide)->(nn:¬ 4=i:=by decide)->(4=i\/D 4)->(a.put (some d) v).eval (.tmp 31)=.slice ax n ec:=fun {d v} hd nn h=>aQb
  have K5:∀ {d:Nat} {v:Value},(hd:32≠d:=by decide)->(nn:¬ 5=i:=by decide)->(5=i\/D 5)->(a.put (some d) v).eval (.tmp 32)=.agg (xBA c (.slice ma M.length J) (.slice none 0 0) (.slice none 0 0) (.slice none 0 0) false (.slice ax n ec) 0)/\(2=i\/D 2):=fun {d v} hd nn h=>by have h:=h.resolve_left nn;obtain⟨g0,g1⟩:=f5 h;exact⟨((aAA hd).trans g0),(Or.inr g1)⟩
  have K6:∀ {d:Nat} {v:Value} {w':World},Below w.heap.size w w'->(hd:9≠d:=by decide)->(nn:¬ 6=i:=by decide)->(6=i\/D 6)->(a.put (some d) v).eval (.tmp 9)=.pointer (some ⟨P,0,none⟩)/\(V.heap.size<=P)/\(∃ cs:Array Value,BoxN w' P 83 cs/\cs.size=18)/\P+1<=w'.heap.size:=fun {d v w'} hbw hd nn h=>by have h:=h.resolve_left nn;obtain⟨g0,g1,g2,g3⟩:=f6 h;exact⟨((aAA hd).trans g0),g1,(by obtain⟨cs,hcs,hcz⟩:=g2;exact⟨cs,hcs.below hbw,hcz⟩),(Nat.le_trans g3 hbw.size)⟩
  have K7:∀ {w':World},Below w.heap.size w w'->(nn:¬ 7=i:=by decide)->(7=i\/D 7)->BoxN w' P 83 (xBA c (.slice ma M.length J) (.slice none 0 0) (.slice none 0 0) (.slice none 0 0) false (.slice ax n ec) 0)/\(V.heap.size<=P)/\(2=i\/D 2)/\(6=i\/D 6):=fun {w'} hbw nn h=>by have h:=h.resolve_left nn;obtain⟨g0,g1,g2,g3⟩:=f7 h;exact⟨(g0.below hbw),g1,(Or.inr g2),(Or.inr g3)⟩
  obtain (rfl|rfl|rfl|rfl|rfl|rfl|rfl|rfl):i=0\/i=1\/i=2\/i=3\/i=4\/i=5\/i=6\/i=7:=dQ
  ·refine aCA o0 ((hf.eval iQ).trans h4) (iJA (hC.below hb)) ?_;exact⟨hf.put iQ _,hb,ma,J,lo,hi,P,fun _=>bAA pQ,K1,K2 T,K3,K4,K5,K6 T,K7 T,fun h1 h2=>x0 (nr h1) (nr h2)⟩
  ·refine aCA o1 ((hf.eval iQ).trans h5) (dLA (hR.below hb)) ?_;exact⟨hf.put iQ _,hb,ma,J,lo,hi,P,K0,fun _=>bAA pQ,K2 T,K3,K4,K5,K6 T,K7 T,fun h1 h2=>x0 (nr h1) (nr h2)⟩
  ·have d1:=waits j4 O;have e1_0:=f1 d1;refine aHA o2 (by simp only[List.map_toArray,List.map_cons,List.map_nil,oAA,e1_0]) rfl ((HF _ hb).mono ?_);rintro e w' ⟨v,rfl,om,hbw⟩;obtain⟨ya,yc,rfl,_⟩:=(SegB.of om).len;have m2:=hbw.size;have U:=jEA hb hbw (Nat.le_refl _);refine⟨_,rfl,?_⟩;exact⟨hf.put iQ _,U,ya,yc,w.heap.size,w'.heap.size,P,K0,K1,fun _=>⟨bAA pQ,SegB.of om,⟨b3,hbw.size⟩,Nat.le_refl _⟩,fun h=>by have h':=(nr h);obtain⟨g0,g1⟩:=f3 h';exact absurd g1 hnd,K4,fun h=>by have h':=(nr h);obtain⟨g0,g1⟩:=f5 h';exact absurd g1 hnd,K6 hbw,fun h=>by have h':=(nr h);obtain⟨g0,g1,g2,g3⟩:=f7 h';exact absurd g2 hnd,fun h1 h2=>by have h':=(nr h2);obtain⟨g0,g1,g2,g3⟩:=f6 h';omega⟩
  ·have d0:=waits j5 O;have e0_0:=f0 d0;have d2:=waits c0 O;obtain⟨e2_0,d8,d9,e0⟩:=f2 d2;refine qAA (v:=.agg (lBA c (.slice ma M.length J) (.slice none 0 0) (.slice none 0 0) (.slice none 0 0) false)) (w':=w) o3 (fun o ho=>by unfold execOp;rw[ho];dsimp only;simp only[List.map_toArray,List.map_cons,List.map_nil,e0_0,e2_0,oAA];simp[go_sem,lBA,dAA]) ?_;exact⟨hf.put iQ _,hb,ma,J,lo,hi,P,K0,K1,K2 T,fun _=>⟨bAA pQ,Or.inr d2⟩,K4,K5,K6 T,K7 T,fun h1 h2=>x0 (nr h1) (nr h2)⟩
  ·refine zCA o4 ((hf.eval iQ).trans h2) ?_;exact⟨hf.put iQ _,hb,ma,J,lo,hi,P,K0,K1,K2 T,K3,fun _=>bAA pQ,K5,K6 T,K7 T,fun h1 h2=>x0 (nr h1) (nr h2)⟩
  ·have d3:=waits j8 O;obtain⟨a5,e3⟩:=f3 d3;have d4:=waits c7 O;have e4_0:=f4 d4;refine qAA (v:=.agg (xBA c (.slice ma M.length J) (.slice none 0 0) (.slice none 0 0) (.slice none 0 0) false (.slice ax n ec) 0)) (w':=w) o5 (fun o ho=>by unfold execOp;rw[ho];dsimp only;simp only[List.map_toArray,List.map_cons,List.map_nil,a5,e4_0,oAA];simp[go_sem,xBA,lBA]) ?_;exact⟨hf.put iQ _,hb,ma,J,lo,hi,P,K0,K1,K2 T,K3,K4,fun _=>⟨bAA pQ,Or.inr e3⟩,K6 T,K7 T,fun h1 h2=>x0 (nr h1) (nr h2)⟩
  ·obtain⟨cs,i3,hcz⟩:=aXA w;refine ePA o6 i3 ?_;have hbw:Below w.heap.size w (w.alloc (.cells cs 83)):=(Below.refl _ _).alloc (Nat.le_refl _) _;have U:=jEA hb hbw (Nat.le_refl _);exact⟨hf.put iQ _,U,ma,J,lo,hi,w.heap.size,K0,K1,K2 hbw,K3,K4,K5,fun _=>⟨bAA pQ,b3,⟨cs,BoxN.new _ _ _,hcz⟩,Nat.le_of_eq (World.size_alloc _ _).symm⟩,fun h=>by have h':=(nr h);obtain⟨g0,g1,g2,g3⟩:=f7 h';exact absurd g3 hnd,fun h1 h2=>by have h':=(nr h1);obtain⟨g0,g1,g2,g3⟩:=f2 h';omega⟩
  ·have d6:=waits k4 O;obtain⟨e6_0,a3,a7,i9⟩:=f6 d6;have d5:=waits k3 O;obtain⟨e5_0,a6⟩:=f5 d5;obtain⟨cs,hcs,hcz⟩:=a7;obtain⟨w',hst,a9,hsp⟩:=uYA hcs hcz;refine mDA o7 e6_0 e5_0 hst ?_;have U:=hb.trans (hsp.below a3 b3);exact⟨hf,U,ma,J,lo,hi,P,fun h=>wQa,fun h=>jQb,fun h=>by have h':=(nr h);have:=x0 h' d6;obtain⟨g0,g1,g2,g3⟩:=f2 h';exact⟨g0,(g1.span hsp dQ),g2,(Nat.le_trans g3 hsp.size)⟩,fun h=>by have h':=(nr h);obtain⟨g0,g1⟩:=f3 h';exact⟨g0,(Or.inr g1)⟩,fun h=>aQd,fun h=>by have h':=(nr h);obtain⟨g0,g1⟩:=f5 h';exact⟨g0,(Or.inr g1)⟩,fun h=>by have h':=(nr h);obtain⟨g0,g1,g2,g3⟩:=f6 h';exact⟨g0,g1,⟨_,a9,rfl⟩,(Nat.le_trans g3 hsp.size)⟩,fun _=>⟨a9,a3,Or.inr a6,Or.inr d6⟩,fun h1 h2=>x0 (nr h1) (nr h2)⟩
 ·intro D a w hD hI;obtain⟨hf,hb,ma,J,lo,hi,P,f0,f1,f2,f3,f4,f5,f6,f7,x0⟩:=hI;rw[hn] at hD;have e0_0:=f0 (hD 0 iQ);have e1_0:=f1 (hD 1 iQ);obtain⟨e2_0,d8,d9,e0⟩:=f2 (hD 2 iQ);obtain⟨a5,e3⟩:=f3 (hD 3 iQ);have e4_0:=f4 (hD 4 iQ);obtain⟨e5_0,a6⟩:=f5 (hD 5 iQ);obtain⟨e6_0,a3,a7,i9⟩:=f6 (hD 6 iQ);obtain⟨e7_0,a8,b6,i1⟩:=f7 (hD 7 iQ);have y0:=x0 (hD 2 iQ) (hD 6 iQ);obtain⟨n1,n2⟩:=d9;exact hQ a w hf ⟨ma,J,lo,hi,P,e6_0,e7_0,d8,⟨n1,n2,e0,a3,dQ,e7_0.lt⟩,hb⟩
 ·exact⟨xAA.refl _ _,(Below.refl _ _).drew,none,0,0,0,0,fun h=>False.elim h,fun h=>False.elim h,fun h=>False.elim h,fun h=>False.elim h,fun h=>False.elim h,fun h=>False.elim h,fun h=>False.elim h,fun h=>False.elim h,fun h=>False.elim h⟩
theorem vJA {c:CpuN} {L:List Nat} (hr:ramN L.length=true):(stepN c L).2.mem.length=L.length:=by
 unfold stepN;rw[if_pos hr];split
 ·rfl
 ·exact (dPA ⟨L,[]⟩ c).1
theorem nFA {c:CpuN} {L:List Nat} {nmi:Bool} (hr:ramN L.length=true):(jBA c L nmi).2.mem.length=L.length:=by
 unfold jBA;rw[if_pos hr];exact (lIA (((Grew.same ⟨L,[]⟩ 0).rd (a:=c.PC)).rd (a:=c.PC)) c c.PC false (if nmi then 65530 else 65534)).1
theorem kLA {c:CpuN} {L:List Nat} (hr:ramN L.length=true) (hj:jamsN L c.PC=false):0 < (stepN c L).2.log.length:=by
 have h:=(lBB (L:=L) (by have:=dBA hr;omega) c).many;unfold stepN;rw[if_pos hr,if_neg (by rw[hj];exact Bool.false_ne_true)];omega
theorem hHA {c:CpuN} {L:List Nat} {nmi:Bool} (hr:ramN L.length=true):0 < (jBA c L nmi).2.log.length:=by
 unfold jBA;rw[if_pos hr];unfold lFA pushN;simp[BusN.rd,BusN.put]
theorem getD_set_ne (M:List Nat) {i j:Nat} (d:Nat) (h:j≠i):(M.set i d).getD j 0=M.getD j 0:=by
 simp[List.getD,List.getElem?_set_ne (Ne.symm h)]
theorem oQA (M:List Nat) {i j:Nat} (d:Nat) (h:j=i) (hi:i < M.length):(M.set i d).getD j 0=d:=by
 subst h;simp[List.getD,hi]
theorem sTA (n v b4 d i z c:Bool):(pkV n v b4 d i z c).toNat < 256:=by have:=eGA n v b4 d i z c;omega
def AllB (M:List Nat):Prop:=∀ i,M.getD i 0 < 256
theorem AllB.set {M:List Nat} (h:AllB M) (i:Nat) {d:Nat} (hd:d < 256):AllB (M.set i d):=by
 intro j;by_cases hj:j=i
 ·by_cases hi:i < M.length
  ·rw[oQA M d hj hi];exact hd
  ·rw[List.set_eq_of_length_le dQ];exact h j
 ·rw[getD_set_ne M d hj];exact h j
theorem iQA (n:Int):(IntKind.u8.wrap n).toNat < 256:=dQd
theorem or8R (a b:Int):(bits .or .u8 a b).toNat < 256:=iQA _
theorem and8R (a b:Int):(bits .and .u8 a b).toNat < 256:=iQA _
theorem xor8R (a b:Int):(bits .xor .u8 a b).toNat < 256:=iQA _
theorem adR8 (a b:Int) (d c:Bool):(adR a b d c).toNat < 256:=by have:=zIA a b d c;omega
theorem sbR8 (a b:Int) (d c:Bool):(sbR a b d c).toNat < 256:=by have:=qJA a b d c;omega
def BusN.byt (b:BusN):Prop:=∀ i,b.mem.getD i 0 < 256
theorem BusN.byt.get {b:BusN} (h:b.byt) (a:Nat):b.get a < 256:=h _
theorem BusN.byt.rd {b:BusN} (h:b.byt) (a:Nat):(b.rd a).byt:=h
theorem BusN.byt.put {b:BusN} (h:b.byt) (a:Nat) {d:Nat} (hd:d < 256):(b.put a d).byt:=fun i=>by
 show (b.mem.set (b.spot a) d).getD i 0 < 256;have hi:=h i;rw[List.getD_eq_getElem?_getD] at hi ⊢;rw[List.getElem?_set];split
 ·split
  ·exact hd
  ·simp
 ·exact hi
theorem lHA {x y:Nat} (hx:x < 256) (hy:y < 256):word x y < 65536:=by unfold word;omega
theorem cPA {p:Prop} [Decidable p] {a b:CpuN} (h1:a.ok) (h2:b.ok):(if p then a else b).ok:=by split<;>assumption
theorem wTA {c:CpuN} (h:c.ok) (l:List UInt8) {m:Nat} (hm:m < 256):(useL c l m).ok:=by
 unfold useL;repeat' (refine cPA ?_ ?_)
 all_goals(refine⟨?_,?_,?_,?_,?_⟩<;>first|exact h.1|exact h.2.1|exact h.2.2.1|exact h.2.2.2.1|exact h.2.2.2.2|exact hm|exact or8R _ _|exact and8R _ _|exact xor8R _ _|exact adR8 _ _ _ _|exact sbR8 _ _ _ _)
theorem dFB {c:CpuN} (h:c.ok) (l:List UInt8) (m:Nat):(c.chg l m).ok:=h
theorem rZA {c:CpuN} (h:c.ok) (l:List UInt8):(flagL c l).ok:=by
 unfold flagL;repeat' (refine cPA ?_ ?_)
 all_goals exact h
theorem iEB {c:CpuN} (h:c.ok) (l:List UInt8):(regL c l).ok:=by
 have m1:∀ x:Nat,x % 256 < 256:=fun x=>Nat.mod_lt _ iQ
 unfold regL;repeat' (refine cPA ?_ ?_)
 all_goals(refine⟨?_,?_,?_,?_,?_⟩<;>first|exact h.1|exact h.2.1|exact h.2.2.1|exact h.2.2.2.1|exact h.2.2.2.2|exact m1 _)
theorem dDB {c:CpuN} (h:c.ok) (l:List UInt8) (m:Int):(impL c l m).ok:=by
 unfold impL;split
 ·exact⟨rLA l c.A h.1 c.C,h.2⟩
 ·exact rZA (iEB h l) l
theorem jGA {c:CpuN} (h:c.ok) {q:Nat} (hq:q < 65536):({ c with PC:=q }:CpuN).ok:=⟨h.1,h.2.1,h.2.2.1,h.2.2.2.1,hq⟩
theorem m16 (x:Nat):x % 65536 < 65536:=Nat.mod_lt _ iQ
theorem m8 (x:Nat):x % 256 < 256:=Nat.mod_lt _ iQ
theorem rKA {b:BusN} {c:CpuN} (hb:b.byt) (h:c.ok) (pc:Nat) (b4:Bool) (k7:Nat):(pushN b c pc b4 k7).1.ok/\(pushN b c pc b4 k7).2.byt:=by
 have hb3:=((hb.put (stk c.S) (m8 (pc / 256))).put (stk (c.S+255)) (m8 pc)).put (stk (c.S+254)) (sTA c.N c.V b4 c.D c.I c.Z c.C);exact⟨⟨h.1,h.2.1,h.2.2.1,m8 _,lHA (hb3.get _) (hb3.get _)⟩,hb3⟩
theorem zTA {b:BusN} {c:CpuN} (hb:b.byt) (h:c.ok) (l:List UInt8):(fBA b c l).1.ok/\(fBA b c l).2.byt:=by
 unfold fBA;dsimp only;split
 ·refine⟨jGA h (m16 _),?_⟩;show BusN.byt (if _ then _ else _);split
  ·exact hb
  ·exact hb
 ·exact⟨jGA h (m16 _),hb⟩
theorem oAB {b:BusN} {c:CpuN} (hb:b.byt) (h:c.ok) (l:List UInt8):(holdN b c l).1.ok/\(holdN b c l).2.byt:=by
 unfold holdN;dsimp only;split
 ·exact⟨⟨h.1,h.2.1,h.2.2.1,m8 _,m16 _⟩,hb.put _ h.1⟩
 ·split
  ·exact⟨⟨h.1,h.2.1,h.2.2.1,m8 _,m16 _⟩,hb.put _ (sTA _ _ _ _ _ _ _)⟩
  ·split
   ·exact⟨⟨h.1,h.2.1,h.2.2.1,m8 _,m16 _⟩,hb⟩
   ·exact⟨⟨hb.get _,h.2.1,h.2.2.1,m8 _,m16 _⟩,hb⟩
theorem nFB {b:BusN} {c:CpuN} (hb:b.byt) (h:c.ok) (l:List UInt8) (m:Int):(goN b c l m).1.ok/\(goN b c l m).2.byt:=by
 unfold goN;dsimp only;split
 ·split
  ·exact⟨jGA h (lHA (hb.get _) (hb.get _)),hb⟩
  ·exact⟨jGA h (lHA (hb.get _) (hb.get _)),hb⟩
 ·split
  ·have hb4:=(((hb.rd (c.PC+1)).rd (stk c.S)).put (stk c.S) (d:=(c.PC+2) % 65536 / 256) (by have:=m16 (c.PC+2);omega)).put (stk (c.S+255)) (m8 ((c.PC+2) % 65536));exact⟨⟨h.1,h.2.1,h.2.2.1,m8 _,lHA (hb.get _) (hb4.get _)⟩,hb4⟩
  ·split
   ·exact⟨⟨h.1,h.2.1,h.2.2.1,m8 _,m16 _⟩,hb⟩
   ·split
    ·exact⟨⟨h.1,h.2.1,h.2.2.1,m8 _,lHA (hb.get _) (hb.get _)⟩,hb⟩
    ·split
     ·exact rKA (hb.rd _) h _ _ _
     ·exact oAB (hb.rd _) h l
theorem dXA {b:BusN} (hb:b.byt) (c:CpuN) (m:Int):(baseN b c m).2.byt:=by
 unfold baseN;dsimp only;split<;>exact hb
theorem zUA {b:BusN} (hb:b.byt) (c:CpuN) (m k:Int):(kAA b c m k).2.byt:=by
 unfold kAA;dsimp only;repeat' split
 all_goals first|exact hb|exact dXA hb c m
theorem rWA {c:CpuN} (h:c.ok) (l:List UInt8):iCA c l < 256:=by
 unfold iCA;repeat' split
 ·exact h.2.1
 ·exact h.2.2.1
 ·exact h.1
theorem mZA {b:BusN} {c:CpuN} (hb:b.byt) (h:c.ok) (a4:Nat):(dataN b c a4).1.ok/\(dataN b c a4).2.byt:=by
 unfold dataN;dsimp only;split
 ·exact⟨jGA (wTA h _ (hb.get _)) (m16 _),hb⟩
 ·have hp:=zUA hb c (iAA a4) (eAA a4);have c8:=jGA h (m16 (c.PC+(sAA a4).toNat));split
  ·exact⟨wTA c8 _ (hp.get _),hp⟩
  ·split
   ·exact⟨c8,hp.put _ (rWA c8 _)⟩
   ·exact⟨dFB c8 _ _,((hp.rd _).put _ (hp.get _)).put _ (rLA _ _ (hp.get _) _)⟩
theorem cYA {b:BusN} {c:CpuN} (hb:b.byt) (h:c.ok):(opN b c).1.ok/\(opN b c).2.byt:=by
 unfold opN;dsimp only;split
 ·exact⟨jGA (dDB h _ _) (m16 _),hb⟩
 ·split
  ·exact zTA (hb.rd _) h _
  ·split
   ·exact mZA (hb.rd _) h _
   ·exact nFB (hb.rd _) h _ _
theorem sKA {c:CpuN} {L:List Nat} (h:c.ok) (hb:∀ i,L.getD i 0 < 256):(stepN c L).1.ok:=by
 unfold stepN;split
 ·split
  ·exact h
  ·exact (cYA (b:=⟨L,[]⟩) hb h).1
 ·exact kTA
theorem gGA {c:CpuN} {L:List Nat} (h:c.ok) (hb:∀ i,L.getD i 0 < 256) (nmi:Bool):(jBA c L nmi).1.ok:=by
 unfold jBA;split
 ·exact (rKA (b:=((⟨L,[]⟩:BusN).rd c.PC).rd c.PC) hb h _ _ _).1
 ·exact kTA
theorem RowB.all {w:World} {a:Option Addr} {L:List Nat} (h:RowB w a L) (i:Nat):L.getD i 0 < 256:=h.byte' i
def ShotN.int (s:ShotN):ShotI:=⟨s.cpu,s.mem,s.trace,s.starts.map (fun (n:Nat)=>(n:Int)),s.cpus,s.jam⟩
def runOk (L:List Nat) (E:List EvN) (n:Int):Prop:=ramN L.length=true/\0<=n/\n<=120/\E.length<=16
instance (L:List Nat) (E:List EvN) (n:Int):Decidable (runOk L E n):=by unfold runOk;exact inferInstance
def eBA (c:CpuN) (L:List Nat) (E:List EvN) (n:Int):ShotN:=if runOk L E n then runN c L E n.toNat else ⟨cpu0,[],[],[],[],false⟩
def Shown (w:World) (s:ShotI) (e:Ending) (w':World):Prop:=∃ m t st p,e=.returned (shotV s.cpu m t st p s.jam)/\fDA w' w.heap.size w'.heap.size m t st p s/\Below w.heap.size w w'
structure Under (c:CpuN) (L:List Nat) (E:List EvN) (k:Nat) (s:ShotN):Prop where
 is:s=hBA E k 0 (tBA c L)
 ok:s.cpu.ok
 ram:s.mem.length=L.length
 many:s.trace.length<=8*k
 starts:s.starts.length=k
 cpus:s.cpus.length=k
 jam:s.jam=false
theorem mLA (E:List EvN) (k:Nat) (s:ShotN) (h:(hBA E k 0 s).jam=false):hBA E (k+1) 0 s=unitN E k (hBA E k 0 s):=by
 rw[uGA E k 1 0 s,Nat.zero_add,oFA,if_neg (by rw[h];exact Bool.false_ne_true)];rfl
theorem Under.on {c:CpuN} {L:List Nat} {E:List EvN} {k:Nat} {s:ShotN} (h:Under c L E k s) {r:CpuN×BusN} (hu:unitN E k s=s.on r) (k9:r.1.ok) (hm:r.2.mem.length=s.mem.length) (hl:r.2.log.length<=8):Under c L E (k+1) (s.on r):=by
 have e:=mLA E k (tBA c L) (by rw[<-h.is];exact h.jam);rw[<-h.is,hu] at e;refine⟨e.symm,k9,hm.trans h.ram,?_,?_,?_,h.jam⟩
 ·show (s.trace++r.2.log).length<=8*(k+1);rw[List.length_append];have:=h.many;omega
 ·show (s.starts++[s.trace.length]).length=k+1;rw[List.length_append,h.starts];rfl
 ·show (s.cpus++[s.cpu]).length=k+1;rw[List.length_append,h.cpus];rfl
theorem Under.begin (c:CpuN) (hc:c.ok) (L:List Nat) (E:List EvN):Under c L E 0 (tBA c L):=⟨rfl,hc,rfl,Nat.le_refl _,rfl,rfl,rfl⟩
theorem Under.jams {c:CpuN} {L:List Nat} {E:List EvN} {k:Nat} {s:ShotN} (h:Under c L E k s) (hu:unitN E k s={ s with jam:=true }) (n:Nat) (hn:k < n):hBA E n 0 (tBA c L)={ s with jam:=true }:=by
 obtain⟨m,rfl⟩:∃ m,n=(k+1)+m:=⟨n - (k+1),dQ⟩;have e:=mLA E k (tBA c L) (by rw[<-h.is];exact h.jam);rw[<-h.is,hu] at e;rw[uGA,e,iGA _ _ _ _ rfl]
theorem sYA {c:CpuN} {L:List Nat} (h:jamsN L c.PC=true):stepN c L=(c,⟨L,[]⟩):=by
 have hr:ramN L.length=true:=by unfold jamsN at h;rw[Bool.and_eq_true] at h;exact h.1
 unfold stepN;rw[if_pos hr,if_pos h]
theorem zHA {L M:List Nat} (h:ramN L.length=true) (e:M.length=L.length):ramN M.length=true:=by rw[e];exact h
theorem cFA (w:World) (N hi:Nat) (h:N<=hi):fDA w N hi (.slice none 0 0) (.slice none 0 0) (.slice none 0 0) (.slice none 0 0) ⟨cpu0,[],[],[],[],false⟩:=by
 have hk:∀ k,(Value.slice none 0 0).ownBlock=some k->k < N:=fun k ek=>bQb
 exact⟨N,N,N,N,N,N,N,N,⟨⟨fun i hi=>by simp at hi,World.ownsRow_nil w N _ _⟩,hk⟩,⟨World.ownsRow_nil w N _ _,hk⟩,⟨World.ownsRow_nil w N _ _,hk⟩,⟨World.ownsRow_nil w N _ _,hk⟩,dQ,dQ⟩
def iDA (N Z P l1 h1 l2 h2 l3 h3 l4 h4:Nat):Prop:=
 (N<=l1/\l1<=h1/\h1<=Z)/\(N<=l2/\l2<=h2/\h2<=Z)/\(N<=l3/\l3<=h3/\h3<=Z)/\(N<=l4/\l4<=h4/\h4<=Z)/\(N<=P/\P < Z) /\
 (h1<=l2\/h2<=l1)/\(h1<=l3\/h3<=l1)/\(h1<=l4\/h4<=l1)/\(h2<=l3\/h3<=l2)/\(h2<=l4\/h4<=l2)/\(h3<=l4\/h4<=l3) /\
 (h1<=P\/P+1<=l1)/\(h2<=P\/P+1<=l2)/\(h3<=P\/P+1<=l3)/\(h4<=P\/P+1<=l4)
theorem kVA (a1 a2:Option Addr) (c1 c2:Nat) (L:List CycN) (w:World) (hl:L.length<=1048576) (h1:RowC w a1 L) (h2:RowC w a2 L) :
  Calls Tryz.prog 13 #[.slice a1 L.length c1,.slice a2 L.length c2] w fun e w'=>e=.returned (.bool true)/\Below w.heap.size w w':=by
 have H1:=j_ h1;have H2:=j_ h2;clear h1 h2;go_enter Tryz.func13,Tryz.ntmps13;go_wp2;go_loopw [5] (fun i wr=>∃ k:Nat,k<=L.length/\i=.int .i64 k/\Below w.heap.size w wr) (fun i _=>L.length - (intOf i).toNat)
 case atStart=>exact⟨0,Nat.zero_le _,rfl,Below.refl _ _⟩
 case round=>
  obtain⟨k,hk,rfl,hb⟩:=hrel;by_cases hp:k < L.length
  ·obtain⟨g1,o1,rfl,_,e1⟩:=(H1.out.below hb) dQ;obtain⟨g2,o2,rfl,_,e2⟩:=(H2.out.below hb) dQ;obtain⟨f1,f2,f3⟩:=e1 k hp;obtain⟨f4,f5,f6⟩:=e2 k hp;clear e1 e2;obtain⟨x,hx⟩:∃ x,L[k].addr=x:=⟨_,rfl⟩;obtain⟨y,hy⟩:∃ x,L[k].data=x:=⟨_,rfl⟩;obtain⟨b,j0⟩:∃ x,L[k].wr=x:=⟨_,rfl⟩;rw[hx] at f1 f4;rw[hy] at f2 f5;rw[j0] at f3 f6;clear hx hy j0;have ik:(0:Int)<=(k:Int)/\(k:Int) < (L.length:Int):=dQ;have HB:=j_ hb;clear hb;go_wp2;go_quiet (fail);go_wp2;go_roundw
   case rel=>exact⟨k+1,dQ,bQh,below_drewN HB.out _⟩
   case measure=>simp[intOf];omega
  ·go_wp2;go_ret;exact⟨rfl,hb⟩

end Go.Proofs.YtckfdbjjjgfbfaaGreat
