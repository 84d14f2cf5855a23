import Derived.Test.YtckfdbjjjgfbfaaGreatRPhr
import Derived.Test.YtckfdbjjjgfbfaaGreatRCells
import Derived.Test.YtckfdbjjjgfbfaaGreatRAluA
import Derived.Test.YtckfdbjjjgfbfaaGreatRRegStep
import Derived.Test.YtckfdbjjjgfbfaaGreatRCycRow
import Derived.Laws.Tables
import Derived.Laws.OwnMore
set_option linter.unusedVariables false
set_option linter.unusedSimpArgs false
set_option maxRecDepth 100000
namespace Go.Proofs.YtckfdbjjjgfbfaaGreat
open Go.RowKit
theorem pTA (n v d i z c:Bool) (w:World) :
  Calls Tryz.prog 49 #[.agg #[.bool n,.bool v,.bool d,.bool i,.bool z,.bool c]] w fun e w'=>e=.returned (.agg #[.bool n,.bool v,.bool d,.bool i,.bool z,.bool c])/\Below w.heap.size w w':=by
 go_enter Tryz.func49,Tryz.ntmps49;go_wp2;exact bodyPost_ret (v:=.agg #[.bool n,.bool v,.bool d,.bool i,.bool z,.bool c]) (by simp[results,Tryz.results49,go_sem]) rfl ⟨rfl,(((Below.refl _ _).alloc (Nat.le_refl _) _).alloc xQ _).alloc qQ _⟩
theorem wJA (c:CpuN) (w:World) :
  Calls Tryz.prog 20 #[cpuV c] w fun e w'=>e=.returned (cpuV c)/\Below w.heap.size w w':=by
 obtain⟨cA,cX,cY,cS,cP,cN,cV,cD,cI,cZ,cC⟩:=c;go_enter Tryz.func20,Tryz.ntmps20;go_wp2_with fail;refine (pTA _ _ _ _ _ _ _).mono ?_;rintro e w1 ⟨rfl,d1⟩;have p3:=(BoxN.new ((w.alloc (.cells (dAA ⟨cA,cX,cY,cS,cP,cN,cV,cD,cI,cZ,cC⟩) 52)).alloc (.cells (zQ []).toArray 28)) 28 #[.int .u8 (cA:Int),.int .u8 (cX:Int),.int .u8 (cY:Int),.int .u8 (cS:Int),.int .u16 (cP:Int),.bool false,.bool false,.bool false,.bool false,.bool false,.bool false]).below d1;have p2:=((BoxN.new (w.alloc (.cells (dAA ⟨cA,cX,cY,cS,cP,cN,cV,cD,cI,cZ,cC⟩) 52)) 28 (zQ []).toArray).below ((Below.refl _ _).alloc (Nat.le_refl _) (.cells #[.int .u8 (cA:Int),.int .u8 (cX:Int),.int .u8 (cY:Int),.int .u8 (cS:Int),.int .u16 (cP:Int),.bool false,.bool false,.bool false,.bool false,.bool false,.bool false] 28))).below d1;rw[World.size_alloc,World.size_alloc] at p3;rw[World.size_alloc] at p2;have b1:=bstep ((((Below.refl _ w).alloc (Nat.le_refl _) _).alloc xQ _).alloc qQ _) d1;clear d1;have d7:=p3.cell 0 _ rfl;have b4:=p2.cell 0 _ rfl;have c9:=p3.cell 1 _ rfl;have a5:=p2.cell 1 _ rfl;have d8:=p3.cell 2 _ rfl;have b2:=p2.cell 2 _ rfl;have d3:=p3.cell 3 _ rfl;have a8:=p2.cell 3 _ rfl;have e0:=p3.cell 4 _ rfl;have b8:=p2.cell 4 _ rfl;have d2:=p3.cell 5 _ rfl;have a9:=p2.cell 5 _ rfl;have d6:=p3.cell 6 _ rfl;have b6:=p2.cell 6 _ rfl;have e3:=p3.cell 7 _ rfl;have b5:=p2.cell 7 _ rfl;have d9:=p3.cell 8 _ rfl;have b7:=p2.cell 8 _ rfl;have d4:=p3.cell 9 _ rfl;have a6:=p2.cell 9 _ rfl;have c8:=p3.cell 10 _ rfl;have a4:=p2.cell 10 _ rfl;have f3:=fun k=>p3.frozen k
 have f2:=fun k=>p2.frozen k
 go_wp2;refine bodyPost_ret (v:=cpuV ⟨cA,cX,cY,cS,cP,cN,cV,cD,cI,cZ,cC⟩) (by simp[results,Tryz.results20,go_sem,b4,a5,b2,a8,b8,a9,b6,b5,b7,a6,a4]) rfl ⟨rfl,?_⟩;all_goals exact (by (repeat(any_goals(first|(with_reducible exact b1)|(with_reducible refine Below.setCell ?_ ?_ _))));all_goals(first|(simp;done)|(simp;omega)))
theorem qVA (n v d i z c:Bool) (w:World) :
  Calls Tryz.prog 91 #[.agg #[.bool n,.bool v,.bool d,.bool i,.bool z,.bool c],.agg #[.bool n,.bool v,.bool d,.bool i,.bool z,.bool c]] w fun e w'=>e=.returned (.bool true)/\Below w.heap.size w w':=by
 go_enter Tryz.func91,Tryz.ntmps91;go_wp2;go_ret;exact⟨rfl,((Below.refl _ _).alloc (Nat.le_refl _) _).alloc xQ _⟩
theorem zNA (c:CpuN) (w:World) :
  Calls Tryz.prog 52 #[cpuV c,cpuV c] w fun e w'=>e=.returned (.bool true)/\Below w.heap.size w w':=by
 obtain⟨cA,cX,cY,cS,cP,cN,cV,cD,cI,cZ,cC⟩:=c;have b0:Below w.heap.size w ((w.alloc (.cells (dAA ⟨cA,cX,cY,cS,cP,cN,cV,cD,cI,cZ,cC⟩) 28)).alloc (.cells (dAA ⟨cA,cX,cY,cS,cP,cN,cV,cD,cI,cZ,cC⟩) 28)):=((Below.refl _ _).alloc (Nat.le_refl _) _).alloc xQ _;go_enter Tryz.func52,Tryz.ntmps52;go_wp2_with fail;refine (qVA _ _ _ _ _ _ _).mono ?_;rintro e w1 ⟨rfl,d1⟩;have b1:=bstep b0 d1;go_wp2;go_ret;exact⟨rfl,b1⟩
def SegC (w:World) (lo hi:Nat) (v:Value) (L:List CycN):Prop:=OwnC w lo v L/\∀ k,v.ownBlock=some k->k < hi
theorem SegC.below {w w':World} {lo hi:Nat} {v:Value} {L:List CycN} (h:SegC w lo hi v L) (hb:Below w.heap.size w w'):SegC w' lo hi v L:=⟨bEA h.1 hb,h.2⟩
theorem SegC.drew {w:World} {lo hi:Nat} {v:Value} {L:List CycN} (h:SegC w lo hi v L):SegC w.drew lo hi v L:=h
theorem SegC.span {w w':World} {lo hi T U:Nat} {v:Value} {L:List CycN} (h:SegC w lo hi v L) (hs:Span T U w w') (hd:hi<=T\/U<=lo):SegC w' lo hi v L:=by
 refine⟨?_,h.2⟩;obtain⟨h1,h2⟩:=h.1;refine⟨h1,?_⟩;rcases h2 with l|⟨g,cap,E,hv,hb,R,H⟩
 ·exact .inl l
 ·have c0:g < hi:=h.2 g (by rw[hv];rfl);exact .inr ⟨g,cap,E,hv,hb,(hs.block g (Array.getElem?_eq_some_iff.1 R).1 dQ).trans R,H⟩
theorem SegC.row {w:World} {lo hi:Nat} {a:Option Addr} {n cap:Nat} {L:List CycN} (h:SegC w lo hi (.slice a n cap) L):RowC w a L:=(OwnC.row h.1).2
theorem aBB (a:Option Addr) (cap k0 lo hi:Nat) (L:List CycN) (w:World) (hl:L.length<=1048576) (hk:k0<=100000000) (h:SegC w lo hi (.slice a L.length cap) L) :
  Calls Tryz.prog 59 #[.slice a L.length cap,.int .i64 k0] w fun e w'=>e=.returned (.int .i64 (k0+3*L.length:Nat))/\SegC w' lo hi (.slice a L.length cap) (jBA k0 L.length)/\Span lo hi w w':=by
 by_cases h0:L.length=0
 ·obtain rfl:L=[]:=List.length_eq_zero_iff.1 h0;refine (sSA a cap k0 w hk).mono ?_;rintro e w' ⟨rfl,rfl⟩;exact⟨rfl,h,Span.refl _ _ _⟩
 ·have h1:=h.1;rcases h1.2 with ⟨_,l⟩|⟨g,cp,E,hv,hb,R,_⟩
  ·omega
  ·simp only[Value.slice.injEq] at hv;obtain⟨rfl,_,rfl⟩:=hv;refine (aAB g L.length cap k0 lo L w rfl hl hk h1).mono ?_;rintro e w' ⟨rfl,ho,hgr⟩;exact⟨rfl,⟨ho,h.2⟩,Span.of_grown hgr hb (h.2 g rfl)⟩
theorem uAB (a:Option Addr) (cap k0 n lo hi:Nat) (w:World) (l:n<=1048576) (hk:k0<=100000000) (h:SegC w lo hi (.slice a n cap) (jBA k0 n)) :
  Calls Tryz.prog 63 #[.slice a n cap,.int .i64 k0] w fun e w'=>e=.returned (.int .i64 (k0+3*n:Nat))/\Below w.heap.size w w':=bAB a n cap k0 w l hk h.row
def dJB (V:World) (r:CpuN×BusN) (e:Ending) (W:World):Prop:=
 ∃ a cap a2 j lo hi a0 a1,e=.returned (.tuple #[cpuV r.1,ramV (.slice a r.2.mem.length cap),.slice a2 r.2.log.length j])/\SegB W lo hi (.slice a r.2.mem.length cap) r.2.mem/\SegC W a0 a1 (.slice a2 r.2.log.length j) r.2.log /\
  (V.heap.size<=lo/\hi<=W.heap.size/\V.heap.size<=a0/\a1<=W.heap.size/\lo<=hi/\a0<=a1/\(hi<=a0\/a1<=lo))/\Below V.heap.size V W
theorem uAA.three {V W:World} {r:CpuN×BusN} {e:Ending} (h:uAA V r e W):dJB V r e W:=by
 obtain⟨v,u,rfl,ho,hc,hne,hb⟩:=h;have hz:=hb.size;have B1:∃ a cap,v=.slice a r.2.mem.length cap/\((∃ g,v.ownBlock=some g/\V.heap.size<=g/\g < W.heap.size)\/v.ownBlock=none):=by
  obtain⟨h1,h2⟩:=ho.2;rcases h2 with ⟨l,h0⟩|⟨g,cp,E,hv,R,hh,_⟩
  ·exact⟨none,0,by rw[l];rw[show r.2.mem.length=0 by simpa using h0],.inr (by rw[l];rfl)⟩
  ·exact⟨_,_,hv,.inl ⟨g,by rw[hv];rfl,R,(Array.getElem?_eq_some_iff.1 hh).1⟩⟩
 have B2:∃ a cap,u=.slice a r.2.log.length cap/\((∃ g,u.ownBlock=some g/\V.heap.size<=g/\g < W.heap.size)\/u.ownBlock=none):=by
  obtain⟨h1,h2⟩:=hc;rcases h2 with ⟨l,h0⟩|⟨g,cp,E,hv,R,hh,_⟩
  ·exact⟨none,0,by rw[l];rw[show r.2.log.length=0 by simpa using h0],.inr (by rw[l];rfl)⟩
  ·exact⟨_,_,hv,.inl ⟨g,by rw[hv];rfl,R,(Array.getElem?_eq_some_iff.1 hh).1⟩⟩
 obtain⟨a,cap,rfl,A1⟩:=B1;obtain⟨a2,j,rfl,A2⟩:=B2;have O:∀ n,(∀ k,(Value.slice a r.2.mem.length cap).ownBlock=some k->n<=k)->OwnB W n (.slice a r.2.mem.length cap) r.2.mem:=fun n l=>⟨ho.1,aCA ho.2 l⟩
 have J:∀ n,(∀ k,(Value.slice a2 r.2.log.length j).ownBlock=some k->n<=k)->OwnC W n (.slice a2 r.2.log.length j) r.2.log:=fun n l=>aCA hc l
 rcases A1 with ⟨g,e1,g1,g2⟩|e1<;>rcases A2 with ⟨g',e2,g3,g4⟩|e2
 ·refine⟨a,cap,a2,j,g,g+1,g',g'+1,rfl,⟨O g ?_,?_⟩,⟨J g' ?_,?_⟩,⟨g1,g2,g3,g4,dQ,dQ,?_⟩,hb⟩
  ·intro k ek;rw[e1] at ek;simp only[Option.some.injEq] at ek;omega
  ·intro k ek;rw[e1] at ek;simp only[Option.some.injEq] at ek;omega
  ·intro k ek;rw[e2] at ek;simp only[Option.some.injEq] at ek;omega
  ·intro k ek;rw[e2] at ek;simp only[Option.some.injEq] at ek;omega
  ·have:g≠g':=fun e=>hne g e1 (by rw[e2,e])
   omega
 ·refine⟨a,cap,a2,j,g,g+1,W.heap.size,W.heap.size,rfl,⟨O g ?_,?_⟩,⟨J _ ?_,?_⟩,⟨g1,g2,hz,Nat.le_refl _,dQ,dQ,.inl dQ⟩,hb⟩
  ·intro k ek;rw[e1] at ek;simp only[Option.some.injEq] at ek;omega
  ·intro k ek;rw[e1] at ek;simp only[Option.some.injEq] at ek;omega
  ·intro k ek;rw[e2] at ek;cases ek
  ·intro k ek;rw[e2] at ek;cases ek
 ·refine⟨a,cap,a2,j,W.heap.size,W.heap.size,g',g'+1,rfl,⟨O _ ?_,?_⟩,⟨J g' ?_,?_⟩,⟨hz,Nat.le_refl _,g3,g4,dQ,dQ,.inr dQ⟩,hb⟩
  ·intro k ek;rw[e1] at ek;cases ek
  ·intro k ek;rw[e1] at ek;cases ek
  ·intro k ek;rw[e2] at ek;simp only[Option.some.injEq] at ek;omega
  ·intro k ek;rw[e2] at ek;simp only[Option.some.injEq] at ek;omega
 ·refine⟨a,cap,a2,j,W.heap.size,W.heap.size,W.heap.size,W.heap.size,rfl,⟨O _ ?_,?_⟩,⟨J _ ?_,?_⟩,⟨hz,Nat.le_refl _,hz,Nat.le_refl _,dQ,dQ,.inl dQ⟩,hb⟩
  ·intro k ek;rw[e1] at ek;cases ek
  ·intro k ek;rw[e1] at ek;cases ek
  ·intro k ek;rw[e2] at ek;cases ek
  ·intro k ek;rw[e2] at ek;cases ek
theorem alw (W:World) (o:Obj):Below W.heap.size W (W.alloc o):=(Below.refl _ _).alloc (Nat.le_refl _) _
theorem uCA {P:Program} {b3:Array Oper} {Q:Exit->Act->World->Prop} {K:Act->World->Prop} {a:Act} {w:World} {i d:Nat} {f:FuncId} {xs:Array Operand} {c1:Array TypeId} {args:Array Value}
  (c7:IsOp b3 i (some d) (.call ⟨.value (.func f),xs,c1⟩)) (a3:xs.map a.eval=args) (a7:(callFunc f args).run P w=.ok (.enter f args) w)
  (hC:Calls P f args w fun e w'=>∃ v,e=.returned v/\K (a.put (some d) v) w'):wpOp P b3 Q i K a w:=by
 refine zXA c7 (fun o ho=>?_) hC;unfold execOp;rw[ho];dsimp only;unfold resolve;dsimp only;rw[a3];show Sem.run P (callFunc f ((#[]++args)++#[])) w=_;rw[Array.append_empty,Array.empty_append];exact a7
theorem dBA {n:Nat} {V W w:World} (h:Below n V W) (k:Below W.heap.size W w) (l:n<=V.heap.size):Below n V w:=h.trans (k.mono (Nat.le_trans l h.size))
theorem wPA {w:World} {B:Nat} {c:CpuN} (h:BoxN w B 52 (dAA c)):(Instr.loadAt 52 (.pointer (some ⟨B,0,none⟩))).run Tryz.prog w=.ok (cpuV c) w:=by
 have g0:=h.cell 0 _ rfl;have g1:=h.cell 1 _ rfl;have g2:=h.cell 2 _ rfl;have g3:=h.cell 3 _ rfl;have g4:=h.cell 4 _ rfl;have g5:=h.cell 5 _ rfl;have g6:=h.cell 6 _ rfl;have g7:=h.cell 7 _ rfl;have g8:=h.cell 8 _ rfl;have g9:=h.cell 9 _ rfl;have g10:=h.cell 10 _ rfl;simp[go_sem,g0,g1,g2,g3,g4,g5,g6,g7,g8,g9,g10]
theorem sPA {w:World} {B:Nat} {v:Value} (h:BoxN w B 53 #[v]):(Instr.loadAt 53 (.pointer (some ⟨B,0,none⟩))).run Tryz.prog w=.ok (ramV v) w:=by
 have g0:=h.cell 0 _ rfl;simp[go_sem,g0]
theorem mIA {w:World} {B:Nat} {v:Value} (h:BoxN w B 30 #[v]):(Instr.loadAt 30 (.pointer (some ⟨B,0,none⟩))).run Tryz.prog w=.ok (ramV v) w:=by
 have g0:=h.cell 0 _ rfl;simp[go_sem,g0]
theorem sFA {w:World} {B:Nat} {t:TypeId} {vs cs:Array Value} (h:BoxN w B t cs) (hz:cs.size=vs.size) (hi:(Tryz.prog.info? t).map (·.size)=some vs.size) (h1:vs.all (·.oneCell')=true) :
  ∃ w',(Instr.storeAt t (.pointer (some ⟨B,0,none⟩)) (.agg vs)).run Tryz.prog w=.ok () w'/\BoxN w' B t vs/\Span B (B+1) w w':=by
 refine⟨w.setRow B vs,?_,setRow_heap w B cs vs t (0,0) h,⟨rfl,rfl,rfl,by simp[World.setRow],fun k _ hk=>setRow_other w B k vs dQ⟩⟩;simp only[Instr.storeAt,Instr.sureAddr,Sem.run_bind,Sem.run_pure,Result.andThen];exact run_storeVar_row _ _ t t cs vs h hi hz h1
theorem tMA {w:World} {B:Nat} {a:Option Addr} {n cap:Nat} {cs:Array Value} (h:BoxN w B 30 cs) (hz:cs.size=1):∃ w',(Instr.storeAt 30 (.pointer (some ⟨B,0,none⟩)) (ramV (.slice a n cap))).run Tryz.prog w=.ok () w'/\BoxN w' B 30 #[.slice a n cap]/\Span B (B+1) w w':=
 sFA (vs:=#[.slice a n cap]) h hz gQ (by simp[dAA,Value.oneCell'])
theorem kNA {w:World} {B:Nat} {c:CpuN} {cs:Array Value} (h:BoxN w B 28 cs) (hz:cs.size=11):∃ w',(Instr.storeAt 28 (.pointer (some ⟨B,0,none⟩)) (cpuV c)).run Tryz.prog w=.ok () w'/\BoxN w' B 28 (dAA c)/\Span B (B+1) w w':=
 sFA (vs:=dAA c) h hz gQ (by simp[dAA,Value.oneCell'])
theorem nr {p q:Prop} (h:p\/q) (n:¬ p:=by decide):q:=h.resolve_left n
structure Enc (α:Type) where
 t:TypeId
 m:Nat
 cells:α->List Value
 len:∀ a,(cells a).length=m
def OwnG {α:Type} (e:Enc α) (w:World) (base:Nat) (v:Value) (L:List α):Prop:=w.ownsRow base e.t e.m v L.length (L.flatMap e.cells)
def RowG {α:Type} (e:Enc α) (w:World) (a:Option Addr) (L:List α):Prop:=
 0 < L.length->∃ g o,a=some ⟨g,o,none⟩/\g < w.heap.size/\∀ i (h:i < L.length) k,k < e.m->w.cell? ⟨g,o+i*e.m+k,none⟩=(e.cells L[i])[k]?
theorem fFA {α:Type} (e:Enc α):∀ L:List α,(L.flatMap e.cells).length=L.length*e.m
 | []=>by simp
 | a :: r=>by rw[List.flatMap_cons,List.length_append,e.len,fFA e r,List.length_cons,Nat.succ_mul];omega
theorem tLA {α:Type} (e:Enc α):∀ (L:List α) (i:Nat) (h:i < L.length) (k:Nat),k < e.m->(L.flatMap e.cells)[i*e.m+k]?=(e.cells L[i])[k]?
 | [],i,h,_,_=>absurd h (Nat.not_lt_zero i)
 | a :: r,0,_,k,hk=>by
  rw[List.flatMap_cons,Nat.zero_mul,Nat.zero_add,List.getElem?_append_left (by rw[e.len];exact hk)];rfl
 | a :: r,i+1,h,k,hk=>by
  rw[List.flatMap_cons,List.getElem?_append_right (by rw[e.len,Nat.succ_mul];omega),e.len,show (i+1)*e.m+k - e.m=i*e.m+k by rw[Nat.succ_mul];omega];exact tLA e r i (by simpa using h) k hk
theorem OwnG.below {α:Type} {e:Enc α} {w w':World} {base:Nat} {v:Value} {L:List α} (h:OwnG e w base v L) (hb:Below w.heap.size w w'):OwnG e w' base v L:=by
 refine World.ownsRow.kept h (row:=none) ⟨hb.os,hb.tape,hb.output,hb.size,fun i hi _=>hb.block i hi⟩ ?_;cases v.ownBlock<;>simp
theorem OwnG.drewN {α:Type} {e:Enc α} {w:World} {base:Nat} {v:Value} {L:List α} (h:OwnG e w base v L) (k:Nat):OwnG e (w.drewN k) base v L:=h
theorem OwnG.up {α:Type} {e:Enc α} {w:World} {base n:Nat} {v:Value} {L:List α} (h:OwnG e w base v L) (l:∀ g,v.ownBlock=some g->n<=g):OwnG e w n v L:=by
 obtain⟨h1,h2⟩:=h;refine⟨h1,?_⟩;rcases h2 with h2|⟨g,cap,E,rfl,hb,rest⟩
 ·exact .inl h2
 ·exact .inr ⟨g,cap,E,rfl,l g rfl,rest⟩
theorem OwnG.len {α:Type} {e:Enc α} {w:World} {base:Nat} {v:Value} {L:List α} (h:OwnG e w base v L):∃ a cap,v=.slice a L.length cap/\L.length<=cap:=by
 rcases h.2 with ⟨rfl,l⟩|⟨g,cap,E,rfl,_,_,hc,_⟩
 ·exact⟨none,0,by rw[l],dQ⟩
 ·exact⟨_,_,rfl,hc⟩
theorem OwnG.row {α:Type} {e:Enc α} {w:World} {base:Nat} {a:Option Addr} {n cap:Nat} {L:List α} (h:OwnG e w base (.slice a n cap) L):n=L.length/\RowG e w a L:=by
 have h':=h;obtain⟨_,h2⟩:=h;rcases h2 with ⟨h2,l⟩|⟨g,d0,E,ev,hb,hh,e4,_⟩
 ·simp only[Value.slice.injEq] at h2;exact⟨dQ,fun h0=>dQ⟩
 ·simp only[Value.slice.injEq] at ev;obtain⟨rfl,rfl,rfl⟩:=ev;refine⟨rfl,fun _=>⟨g,0,rfl,(Array.getElem?_eq_some_iff.1 hh).1,fun i hi k hk=>?_⟩⟩;rw[Nat.zero_add];have b9:i*e.m+k < L.length*e.m:=by
   have:(i+1)*e.m<=L.length*e.m:=Nat.mul_le_mul_right _ hi;rw[Nat.succ_mul] at this;omega
  exact (World.ownsRow.cellAt h' _ b9).trans (tLA e L i hi k hk)
theorem RowG.below {α:Type} {e:Enc α} {w w':World} {a:Option Addr} {L:List α} (h:RowG e w a L) (hb:Below w.heap.size w w'):RowG e w' a L:=fun h0=>by
 obtain⟨g,o,rfl,R,hc⟩:=h h0;refine⟨g,o,rfl,Nat.lt_of_lt_of_le R hb.size,fun i hi k hk=>?_⟩;rw[<-hc i hi k hk];exact hb.cell (p:=⟨g,o+i*e.m+k,none⟩) R
theorem RowG.none {α:Type} (e:Enc α) (w:World) (a:Option Addr):RowG e w a []:=fun h=>absurd h (Nat.lt_irrefl 0)
theorem OwnG.none {α:Type} (e:Enc α) (w:World) (base:Nat):OwnG e w base (.slice .none 0 0) []:=World.ownsRow_nil w base e.t e.m
def SegG {α:Type} (e:Enc α) (w:World) (lo hi:Nat) (v:Value) (L:List α):Prop:=OwnG e w lo v L/\∀ k,v.ownBlock=some k->k < hi
theorem SegG.of {α:Type} {e:Enc α} {w:World} {lo:Nat} {v:Value} {L:List α} (h:OwnG e w lo v L):SegG e w lo w.heap.size v L:=⟨h,fun k ek=>((World.ownsRow.lt h) k ek).2⟩
theorem SegG.below {α:Type} {e:Enc α} {w w':World} {lo hi:Nat} {v:Value} {L:List α} (h:SegG e w lo hi v L) (hb:Below w.heap.size w w'):SegG e w' lo hi v L:=⟨h.1.below hb,h.2⟩
theorem SegG.drew {α:Type} {e:Enc α} {w:World} {lo hi:Nat} {v:Value} {L:List α} (h:SegG e w lo hi v L):SegG e w.drew lo hi v L:=h
theorem SegG.span {α:Type} {e:Enc α} {w w':World} {lo hi T U:Nat} {v:Value} {L:List α} (h:SegG e w lo hi v L) (hs:Span T U w w') (hd:hi<=T\/U<=lo):SegG e w' lo hi v L:=by
 refine⟨?_,h.2⟩;obtain⟨h1,h2⟩:=h.1;refine⟨h1,?_⟩;rcases h2 with l|⟨g,cap,E,hv,hb,R,H⟩
 ·exact .inl l
 ·have c0:g < hi:=h.2 g (by rw[hv];rfl);exact .inr ⟨g,cap,E,hv,hb,(hs.block g (Array.getElem?_eq_some_iff.1 R).1 dQ).trans R,H⟩
theorem SegG.row {α:Type} {e:Enc α} {w:World} {lo hi:Nat} {a:Option Addr} {n cap:Nat} {L:List α} (h:SegG e w lo hi (.slice a n cap) L):RowG e w a L:=(OwnG.row h.1).2
theorem SegG.len {α:Type} {e:Enc α} {w:World} {lo hi:Nat} {v:Value} {L:List α} (h:SegG e w lo hi v L):∃ a cap,v=.slice a L.length cap/\L.length<=cap:=h.1.len
def encI:Enc Int:=⟨3,1,fun n=>[.int .i64 n],fun _=>rfl⟩

end Go.Proofs.YtckfdbjjjgfbfaaGreat
