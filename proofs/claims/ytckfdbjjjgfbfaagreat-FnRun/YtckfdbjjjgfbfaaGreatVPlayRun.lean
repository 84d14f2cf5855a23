import Derived.Recover
import Derived.Test.YtckfdbjjjgfbfaaGreatVPlayUnit
set_option linter.unusedVariables false
set_option linter.unusedSimpArgs false
set_option maxRecDepth 100000
set_option maxHeartbeats 4000000
namespace Go.Proofs.YtckfdbjjjgfbfaaGreat
open Go.RowKit
section
variable {P:Program} {z:Array Oper} {Q:Exit->Act->List Frame->World->Prop} {md:Region.Mode}
theorem pLA {a:Act} {cs:List Frame} {w:World} {id:Nat} (h:∀ t,wpOpsS P z Q (Region.schedule (P.follows .mixedOrders) z t) a cs { w with drawn:=w.drawn+1 }):(Code.region id z true).wpS P Q a cs w:=
 fun b k hb hr=>let ⟨e,a',cs',w',q,r⟩:=wp_opsS _ a cs _ (h _) b k hb hr;⟨e,a',cs',w',q,.of_steps (.one step_region_draw) r⟩
def wpOpS (P:Program) (z:Array Oper) (Q:Exit->Act->List Frame->World->Prop) (i:Nat) (K:Act->List Frame->World->Prop) (a:Act) (cs:List Frame) (w:World):Prop:=
 match z[i]? with
 | none=>K a cs w
 | some o=>
  if Region.wanted o (yielded z a.tmps) then
   match (execOp a.eval o).run P w with
   | .ok .recover w'=>
    match recoverD cs with
    | some (v,cs')=>K (a.put o.dst v) cs' w'
    | none=>K (a.put o.dst .nilIface) cs w'
   | r=>o.upon P a (fun a' w'=>K a' cs w') (fun e a' w'=>Q e a' cs w') r
  else K (a.put o.dst undef) cs w
theorem aTA (i:Nat) (b6:List Nat) (a:Act) (cs:List Frame) (w:World):wpOpsS P z Q (i :: b6) a cs w=wpOpS P z Q i (wpOpsS P z Q b6) a cs w:=by
 cases h:z[i]? with
 | none=>simp[wpOpsS,wpOpS,h]
 | some o=>
  simp only[wpOpsS,wpOpS,h];split
  ·generalize (execOp a.eval o).run P w=r;cases r with
   | ok n w'=>cases n<;>rfl
   | halt x w'=>rfl
  ·rfl
theorem yYA {o:Oper} {a:Act} {K K':Act->World->Prop} {R:Exit->Act->World->Prop} {r:Result Next} (h:∀ a w,K a w->K' a w) (T:o.upon P a K R r):o.upon P a K' R r:=by
 cases r with
 | ok n w'=>
  cases n<;>simp only[Oper.upon] at T ⊢ <;>
   first
    | exact h _ _ T
    | exact Calls.mono T (fun e j9 he=>by cases e<;>first|exact h _ _ he|exact he)
    | exact Rows.mono T (fun _ _ he=>h _ _ he)
 | halt x w'=>cases x<;>simp only[Oper.upon] at T ⊢<;>exact T
theorem oLA {i:Nat} {K K':Act->List Frame->World->Prop} {a:Act} {cs:List Frame} {w:World} (h:∀ a cs w,K a cs w->K' a cs w) (T:wpOpS P z Q i K a cs w):wpOpS P z Q i K' a cs w:=by
 unfold wpOpS at *;cases ho:z[i]? with
 | none=>simp only[ho] at T ⊢;exact h _ _ _ T
 | some o=>
  simp only[ho] at T ⊢;by_cases hw:Region.wanted o (yielded z a.tmps)=true
  ·simp only[hw,if_true] at T ⊢;generalize (execOp a.eval o).run P w=r at T ⊢;have i0:∀ r,o.upon P a (fun a' w'=>K a' cs w') (fun e a' w'=>Q e a' cs w') r->o.upon P a (fun a' w'=>K' a' cs w') (fun e a' w'=>Q e a' cs w') r:=fun r hr=>yYA (fun a w hk=>h a cs w hk) hr
   cases r with
   | halt x w'=>exact i0 _ T
   | ok n w'=>
    cases n with
    | recover=>
     cases b5:recoverD cs with
     | none=>simp only[b5] at T ⊢;exact h _ _ _ T
     | some p=>obtain⟨v,cs'⟩:=p;simp only[b5] at T ⊢;exact h _ _ _ T
    | _=>exact i0 _ T
  ·simp only[hw,if_false,Bool.false_eq_true] at T ⊢;exact h _ _ _ T
theorem rMA (I:Array Bool->Act->List Frame->World->Prop)
  (a1:∀ l a cs w i,i ∈ Region.ready md z l->I l a cs w->wpOpS P z Q i (I (l.setIfInBounds i true)) a cs w)
  (J:∀ l a cs w,Region.ready md z l=[]->I l a cs w->Q .normal a cs w) :
  ∀ (a3 t:Nat) (l:Array Bool) (a:Act) (cs:List Frame) (w:World),cIA z.size l<=a3->I l a cs w->wpOpsS P z Q (Region.linearise.go md z a3 t l []) a cs w
 | 0,t,l,a,cs,w,hf,O=>by
  have hr:Region.ready md z l=[]:=by
   cases h:Region.ready md z l with
   | nil=>rfl
   | cons i r=>
    have hm:i ∈ Region.ready md z l:=by rw[h];simp
    obtain⟨h1,h2⟩:=pHA hm;have:=qGA h1 h2;omega
  simpa [Region.linearise.go,wpOpsS] using J l a cs w hr O
 | a3+1,t,l,a,cs,w,hf,O=>by
  simp only[Region.linearise.go];change wpOpsS P z Q (match (Region.ready md z l)[t % (Region.ready md z l).length]? with
   | some i=>Region.linearise.go md z a3 (t / (Region.ready md z l).length) (l.setIfInBounds i true) [i]
   | none=>[].reverse) a cs w
  cases hi:(Region.ready md z l)[t % (Region.ready md z l).length]? with
  | none=>
   have d7:Region.ready md z l=[]:=by
    cases hr:Region.ready md z l with
    | nil=>rfl
    | cons x xs=>
     rw[hr] at hi;have d0:t % (x :: xs).length < (x :: xs).length:=Nat.mod_lt _ yQ;simp at hi;simp at d0;omega
   simpa [wpOpsS] using J l a cs w d7 O
  | some i=>
   have hm:=List.mem_of_getElem? hi;obtain⟨h1,h2⟩:=pHA hm;have:=qGA h1 h2;simp only[];rw[linearise_go_acc,List.reverse_singleton,List.singleton_append,aTA];exact oLA (fun a cs w h=>rMA I a1 J a3 _ _ a cs w dQ h) (a1 l a cs w i hm O)
theorem uKA (hm:P.follows .mixedOrders=true) (hb:vCA z=true) (I:(Nat->Prop)->Act->List Frame->World->Prop)
  (a1:∀ i,i < z.size->∀ (D:Nat->Prop) a cs w,¬ D i->(∀ o,z[i]?=some o->∀ e ∈ o.after,Region.binds .any e=true->D e.on)->I D a cs w->wpOpS P z Q i (I fun j=>j=i\/D j) a cs w)
  (J:∀ D a cs w,(∀ j,j < z.size->D j)->I D a cs w->Q .normal a cs w)
  (id:Nat) (a:Act) (cs:List Frame) (w:World) (h0:I (fun _=>False) a cs w.drew):(Code.region id z true).wpS P Q a cs w:=by
 refine pLA fun t=>?_
 simp only[Region.schedule,hm,Bool.true_or,if_true];refine rMA (fun l a cs w=>l.size=z.size/\I (fun j=>l.getD j false=true) a cs w) ?_ ?_ _ _ _ _ _ _ ?_ ?_
 ·intro l a cs w i hi ⟨hs,O⟩;obtain⟨h1,o,ho,d6⟩:=mem_ready.1 hi;have d0:i < z.size:=(Array.getElem?_eq_some_iff.1 ho).1;have hn:¬ l.getD i false=true:=by
   rw[Array.getD_eq_getD_getElem?,Array.getElem?_eq_getElem dQ] at h1 ⊢;rw[show l[i]=false from h1];exact Bool.false_ne_true
  refine oLA ?_ (a1 i d0 _ a cs w hn (fun o' d8 e he j2=>by rw[ho] at d8;cases d8;exact d6 e he j2) O);intro a' cs' w' h;refine⟨by rw[Array.size_setIfInBounds];exact hs,?_⟩;have e:(fun j=>(l.setIfInBounds i true).getD j false=true)=fun j=>j=i\/l.getD j false=true:=by
   funext j;by_cases hj:j=i
   ·subst hj;rw[Array.getD_eq_getD_getElem?,Array.getElem?_setIfInBounds_self_of_lt dQ];simp
   ·rw[Go.getD_set_ne false (Ne.symm hj)];simp[hj]
  rw[e];exact h
 ·intro l a cs w hr ⟨hs,O⟩;exact J _ a cs w (fun j hj=>eIA hb hr hs (j+1) j (Nat.lt_succ_self j) hj) O
 ·unfold cIA;exact Nat.le_trans (List.length_filter_le _ _) yQ
 ·refine⟨yQ,?_⟩;have e:(fun j=>(Array.replicate z.size false).getD j false=true)=fun _=>False:=by
   funext j;rw[Array.getD_eq_getD_getElem?,Array.getElem?_replicate];split<;>simp
  rw[e];exact h0
theorem iEA {K:Act->List Frame->World->Prop} {a:Act} {cs:List Frame} {w w':World} {i d:Nat} {v:Value} {op:Op} (b0:IsOp z i (some d) op) (h:∀ o,o.op=op->(execOp a.eval o).run P w=.ok (.value v) w') (hK:K (a.put (some d) v) cs w'):wpOpS P z Q i K a cs w:=by
 obtain⟨o,h1,h2,h3,h4⟩:=isOp b0;unfold wpOpS;rw[h1];have hw:Region.wanted o (yielded z a.tmps)=true:=by unfold Region.wanted;rw[h2]
 simp only[hw,if_true,h o h4,Oper.upon_value,h3];exact hK
theorem xWA {K:Act->List Frame->World->Prop} {a:Act} {cs:List Frame} {w w':World} {i:Nat} {op:Op} (b0:IsOp z i none op) (h:∀ o,o.op=op->(execOp a.eval o).run P w=.ok .skip w') (hK:K a cs w'):wpOpS P z Q i K a cs w:=by
 obtain⟨o,h1,h2,h3,h4⟩:=isOp b0;unfold wpOpS;rw[h1];have hw:Region.wanted o (yielded z a.tmps)=true:=by unfold Region.wanted;rw[h2]
 simp only[hw,if_true,h o h4,Oper.upon_skip,h3];exact hK
theorem qNA {K:Act->List Frame->World->Prop} {a:Act} {cs cs1:List Frame} {w:World} {i d:Nat} {v:Value} (b0:IsOp z i (some d) (.call { callee:=.builtin .recover,args:=#[],argTypes:=#[] })) (hr:recoverD cs=some (v,cs1)\/(recoverD cs=none/\v=.nilIface/\cs1=cs)) (hK:K (a.put (some d) v) cs1 w):wpOpS P z Q i K a cs w:=by
 obtain⟨o,h1,h2,h3,h4⟩:=isOp b0;unfold wpOpS;rw[h1];have hw:Region.wanted o (yielded z a.tmps)=true:=by unfold Region.wanted;rw[h2]
 have he:(execOp a.eval o).run P w=.ok .recover w:=by unfold execOp;rw[h4];rfl
 simp only[hw,if_true,he,h3];rcases hr with hr|⟨hr,rfl,rfl⟩
 ·simp only[hr];exact hK
 ·simp only[hr];exact hK
end
theorem hVA (z:Array Oper) (h:pAA 0 (Tryz.f74.body.getD .skip)=some z):vCA z=true/\z.size=10/\IsOp z 0 (some 2) (.load 116 (.tmp 0))/\IsOp z 1 (some 3) (.call { callee:=.builtin .recover,args:=#[],argTypes:=#[] })/\IsOp z 2 (some 4) (.typeAssert (.tmp 3) 20 117 true)/\IsOp z 3 (some 1) (.move (.tmp 4))/\IsOp z 4 (some 5) (.extract (.tmp 1) 0)/\IsOp z 5 (some 6) (.extract (.tmp 1) 1)/\IsOp z 6 (some 7) (.nilCheck (.tmp 2))/\IsOp z 7 (some 8) (.fieldAddr 83 (.tmp 7) 0)/\IsOp z 8 (some 9) (.fieldAddr 38 (.tmp 8) 5)/\IsOp z 9 none (.store 4 (.tmp 9) (.tmp 6))/\Waits z 2 1/\Waits z 3 2/\Waits z 4 3/\Waits z 5 3/\Waits z 6 0/\Waits z 7 6/\Waits z 8 7/\Waits z 9 8/\Waits z 9 5:=by
 obtain rfl:z=(pAA 0 (Tryz.f74.body.getD .skip)).getD #[]:=jQi;exact⟨gQ,gQ,lQ,lQ,lQ,lQ,lQ,lQ,lQ,lQ,lQ,lQ,kQ,kQ,kQ,kQ,kQ,kQ,kQ,kQ,kQ⟩
theorem nrS {p q:Prop} (h:p\/q) (n:¬ p:=by decide):q:=h.resolve_left n
abbrev yBB (P:Nat) (rv:Value) (b:Bool) (a2 cs1:List Frame) (V:World) (a0:Act) (D:Nat->Prop) (a:Act) (cs:List Frame) (w:World):Prop:=
 xAA a0 [1,2,3,4,5,6,7,8,9] a/\(¬ D 1->cs=a2)/\(D 1->cs=cs1)/\(D 0->a.eval (.tmp 2)=.pointer (some ⟨P,0,none⟩))/\(D 1->a.eval (.tmp 3)=rv)/\(D 2->a.eval (.tmp 4)=.tuple #[.agg #[],.bool b])/\(D 3->a.eval (.tmp 1)=.tuple #[.agg #[],.bool b])/\(D 4->a.eval (.tmp 5)=.agg #[])/\(D 5->a.eval (.tmp 6)=.bool b)/\(D 6->a.eval (.tmp 7)=.pointer (some ⟨P,0,none⟩))/\(D 7->a.eval (.tmp 8)=.pointer (some ⟨P,0,none⟩))/\(D 8->a.eval (.tmp 9)=.pointer (some ⟨P,15,none⟩))/\(¬ D 9->w=V.drew)/\(D 9->w=V.drew.setCell ⟨P,15,none⟩ (.bool b))
theorem iYA (P B:Nat) (W:B≠P) (rv:Value) (b:Bool) (a2 cs1:List Frame) (V:World) (hB:V.cell? ⟨B,0,none⟩=some (.pointer (some ⟨P,0,none⟩))) (u:Value) (hP:V.cell? ⟨P,15,none⟩=some u) (a7:V.frozen? ⟨P,15,none⟩=false)
  (hr:recoverD a2=some (rv,cs1)\/(recoverD a2=none/\rv=.nilIface/\cs1=a2)) (j6:∀ w,(Instr.typeAssert rv 20 117 true).run Tryz.prog w=.ok (.tuple #[.agg #[],.bool b]) w)
  (a0:Act) (h0:a0.eval (.tmp 0)=.pointer (some ⟨B,0,none⟩)) (d3:a0.tmps.size=10) (Q:Exit->Act->List Frame->World->Prop)
  (hQ:∀ a,xAA a0 [1,2,3,4,5,6,7,8,9] a->Q .normal a cs1 (V.drew.setCell ⟨P,15,none⟩ (.bool b)))
  (z:Array Oper) (b3:pAA 0 (Tryz.f74.body.getD .skip)=some z) (id:Nat):(Code.region id z true).wpS Tryz.prog Q a0 a2 V:=by
 obtain⟨j3,hn,o0,o1,o2,o3,o4,o5,o6,o7,o8,o9,i1,i2,i3,i4,i5,i6,i7,j0,i9⟩:=hVA z b3;clear b3;refine uKA gQ j3 (yBB P rv b a2 cs1 V a0) ?_ ?_ id a0 a2 V ?_
 ·intro i j4 D a cs w hnd H O;obtain⟨hf,U,c1,f0,f1,f2,f3,f4,f5,f6,f7,f8,n9,d9⟩:=O;rw[hn] at j4;have hz:a.tmps.size=10:=hf.size.trans d3;obtain (rfl|rfl|rfl|rfl|rfl|rfl|rfl|rfl|rfl|rfl):i=0\/i=1\/i=2\/i=3\/i=4\/i=5\/i=6\/i=7\/i=8\/i=9:=dQ
  ·have hc:w.cell? ⟨B,0,none⟩=some (.pointer (some ⟨P,0,none⟩)):=by
    by_cases h9:D 9
    ·rw[d9 h9,World.cell?_setCell_other _ _ _ _ (by intro e;simp only[Addr.mk.injEq] at e;exact W e.1.symm)];simpa using hB
    ·rw[n9 h9];simpa using hB
   refine iEA (v:=.pointer (some ⟨P,0,none⟩)) (w':=w) o0 (fun o ho=>by unfold execOp;rw[ho];dsimp only;rw[(hf.eval iQ).trans h0];simp[go_sem,hc]) ?_;exact⟨hf.put iQ _,fun h=>U (fun d=>h (Or.inr d)),fun h=>c1 (nrS h),fun _=>bAA pQ,fun h=>(aAA iQ).trans (f1 (nrS h)),fun h=>(aAA iQ).trans (f2 (nrS h)),fun h=>(aAA iQ).trans (f3 (nrS h)),fun h=>(aAA iQ).trans (f4 (nrS h)),fun h=>(aAA iQ).trans (f5 (nrS h)),fun h=>(aAA iQ).trans (f6 (nrS h)),fun h=>(aAA iQ).trans (f7 (nrS h)),fun h=>(aAA iQ).trans (f8 (nrS h)),fun h=>n9 (fun d=>h (Or.inr d)),fun h=>d9 (nrS h)⟩
  ·have hcs:=U hnd;refine qNA (v:=rv) (cs1:=cs1) o1 (by rw[hcs];exact hr) ?_;exact⟨hf.put iQ _,fun h=>absurd (Or.inl rfl) h,fun _=>rfl,fun h=>(aAA iQ).trans (f0 (nrS h)),fun _=>bAA pQ,fun h=>(aAA iQ).trans (f2 (nrS h)),fun h=>(aAA iQ).trans (f3 (nrS h)),fun h=>(aAA iQ).trans (f4 (nrS h)),fun h=>(aAA iQ).trans (f5 (nrS h)),fun h=>(aAA iQ).trans (f6 (nrS h)),fun h=>(aAA iQ).trans (f7 (nrS h)),fun h=>(aAA iQ).trans (f8 (nrS h)),fun h=>n9 (fun d=>h (Or.inr d)),fun h=>d9 (nrS h)⟩
  ·have e1:=f1 (waits i1 H);refine iEA (v:=.tuple #[.agg #[],.bool b]) (w':=w) o2 (fun o ho=>by unfold execOp;rw[ho];dsimp only;rw[e1,Sem.run_bind,j6];rfl) ?_;exact⟨hf.put iQ _,fun h=>U (fun d=>h (Or.inr d)),fun h=>c1 (nrS h),fun h=>(aAA iQ).trans (f0 (nrS h)),fun h=>(aAA iQ).trans (f1 (nrS h)),fun _=>bAA pQ,fun h=>(aAA iQ).trans (f3 (nrS h)),fun h=>(aAA iQ).trans (f4 (nrS h)),fun h=>(aAA iQ).trans (f5 (nrS h)),fun h=>(aAA iQ).trans (f6 (nrS h)),fun h=>(aAA iQ).trans (f7 (nrS h)),fun h=>(aAA iQ).trans (f8 (nrS h)),fun h=>n9 (fun d=>h (Or.inr d)),fun h=>d9 (nrS h)⟩
  ·have e2:=f2 (waits i2 H);refine iEA (v:=.tuple #[.agg #[],.bool b]) (w':=w) o3 (fun o ho=>by unfold execOp;rw[ho];dsimp only;rw[e2];rfl) ?_;exact⟨hf.put iQ _,fun h=>U (fun d=>h (Or.inr d)),fun h=>c1 (nrS h),fun h=>(aAA iQ).trans (f0 (nrS h)),fun h=>(aAA iQ).trans (f1 (nrS h)),fun h=>(aAA iQ).trans (f2 (nrS h)),fun _=>bAA pQ,fun h=>(aAA iQ).trans (f4 (nrS h)),fun h=>(aAA iQ).trans (f5 (nrS h)),fun h=>(aAA iQ).trans (f6 (nrS h)),fun h=>(aAA iQ).trans (f7 (nrS h)),fun h=>(aAA iQ).trans (f8 (nrS h)),fun h=>n9 (fun d=>h (Or.inr d)),fun h=>d9 (nrS h)⟩
  ·have e3:=f3 (waits i3 H);refine iEA (v:=.agg #[]) (w':=w) o4 (fun o ho=>by unfold execOp;rw[ho];dsimp only;rw[e3];simp[go_sem,Instr.extract]) ?_;exact⟨hf.put iQ _,fun h=>U (fun d=>h (Or.inr d)),fun h=>c1 (nrS h),fun h=>(aAA iQ).trans (f0 (nrS h)),fun h=>(aAA iQ).trans (f1 (nrS h)),fun h=>(aAA iQ).trans (f2 (nrS h)),fun h=>(aAA iQ).trans (f3 (nrS h)),fun _=>bAA pQ,fun h=>(aAA iQ).trans (f5 (nrS h)),fun h=>(aAA iQ).trans (f6 (nrS h)),fun h=>(aAA iQ).trans (f7 (nrS h)),fun h=>(aAA iQ).trans (f8 (nrS h)),fun h=>n9 (fun d=>h (Or.inr d)),fun h=>d9 (nrS h)⟩
  ·have e3:=f3 (waits i4 H);refine iEA (v:=.bool b) (w':=w) o5 (fun o ho=>by unfold execOp;rw[ho];dsimp only;rw[e3];simp[go_sem,Instr.extract]) ?_;exact⟨hf.put iQ _,fun h=>U (fun d=>h (Or.inr d)),fun h=>c1 (nrS h),fun h=>(aAA iQ).trans (f0 (nrS h)),fun h=>(aAA iQ).trans (f1 (nrS h)),fun h=>(aAA iQ).trans (f2 (nrS h)),fun h=>(aAA iQ).trans (f3 (nrS h)),fun h=>(aAA iQ).trans (f4 (nrS h)),fun _=>bAA pQ,fun h=>(aAA iQ).trans (f6 (nrS h)),fun h=>(aAA iQ).trans (f7 (nrS h)),fun h=>(aAA iQ).trans (f8 (nrS h)),fun h=>n9 (fun d=>h (Or.inr d)),fun h=>d9 (nrS h)⟩
  ·have e0:=f0 (waits i5 H);refine iEA (v:=.pointer (some ⟨P,0,none⟩)) (w':=w) o6 (fun o ho=>by unfold execOp;rw[ho];dsimp only;rw[e0];simp[go_sem]) ?_;exact⟨hf.put iQ _,fun h=>U (fun d=>h (Or.inr d)),fun h=>c1 (nrS h),fun h=>(aAA iQ).trans (f0 (nrS h)),fun h=>(aAA iQ).trans (f1 (nrS h)),fun h=>(aAA iQ).trans (f2 (nrS h)),fun h=>(aAA iQ).trans (f3 (nrS h)),fun h=>(aAA iQ).trans (f4 (nrS h)),fun h=>(aAA iQ).trans (f5 (nrS h)),fun _=>bAA pQ,fun h=>(aAA iQ).trans (f7 (nrS h)),fun h=>(aAA iQ).trans (f8 (nrS h)),fun h=>n9 (fun d=>h (Or.inr d)),fun h=>d9 (nrS h)⟩
  ·have e6:=f6 (waits i6 H);refine iEA (v:=.pointer (some ⟨P,0,none⟩)) (w':=w) o7 (fun o ho=>by unfold execOp;rw[ho];dsimp only;rw[e6];simp[go_sem]) ?_;exact⟨hf.put iQ _,fun h=>U (fun d=>h (Or.inr d)),fun h=>c1 (nrS h),fun h=>(aAA iQ).trans (f0 (nrS h)),fun h=>(aAA iQ).trans (f1 (nrS h)),fun h=>(aAA iQ).trans (f2 (nrS h)),fun h=>(aAA iQ).trans (f3 (nrS h)),fun h=>(aAA iQ).trans (f4 (nrS h)),fun h=>(aAA iQ).trans (f5 (nrS h)),fun h=>(aAA iQ).trans (f6 (nrS h)),fun _=>bAA pQ,fun h=>(aAA iQ).trans (f8 (nrS h)),fun h=>n9 (fun d=>h (Or.inr d)),fun h=>d9 (nrS h)⟩
  ·have e7:=f7 (waits i7 H);refine iEA (v:=.pointer (some ⟨P,15,none⟩)) (w':=w) o8 (fun o ho=>by unfold execOp;rw[ho];dsimp only;rw[e7];simp[go_sem]) ?_;exact⟨hf.put iQ _,fun h=>U (fun d=>h (Or.inr d)),fun h=>c1 (nrS h),fun h=>(aAA iQ).trans (f0 (nrS h)),fun h=>(aAA iQ).trans (f1 (nrS h)),fun h=>(aAA iQ).trans (f2 (nrS h)),fun h=>(aAA iQ).trans (f3 (nrS h)),fun h=>(aAA iQ).trans (f4 (nrS h)),fun h=>(aAA iQ).trans (f5 (nrS h)),fun h=>(aAA iQ).trans (f6 (nrS h)),fun h=>(aAA iQ).trans (f7 (nrS h)),fun _=>bAA pQ,fun h=>n9 (fun d=>h (Or.inr d)),fun h=>d9 (nrS h)⟩
  ·have e8:=f8 (waits j0 H);have e5:=f5 (waits i9 H);have hw:=n9 hnd;subst hw;refine xWA (w':=V.drew.setCell ⟨P,15,none⟩ (.bool b)) o9 (fun o ho=>by unfold execOp;rw[ho];dsimp only;rw[e8,e5];simp[go_sem,hP,a7]) ?_;exact⟨hf,fun h=>U (fun d=>h (Or.inr d)),fun h=>c1 (nrS h),fun h=>f0 (nrS h),fun h=>f1 (nrS h),fun h=>f2 (nrS h),fun h=>f3 (nrS h),fun h=>f4 (nrS h),fun h=>f5 (nrS h),fun h=>f6 (nrS h),fun h=>f7 (nrS h),fun h=>f8 (nrS h),fun h=>absurd (Or.inl rfl) h,fun _=>rfl⟩
 ·intro D a cs w hD O;obtain⟨hf,U,c1,f0,f1,f2,f3,f4,f5,f6,f7,f8,n9,d9⟩:=O;rw[hn] at hD;rw[c1 (hD 1 iQ),d9 (hD 9 iQ)];exact hQ a hf
 ·exact⟨xAA.refl _ _,fun _=>rfl,fun h=>h.elim,fun h=>h.elim,fun h=>h.elim,fun h=>h.elim,fun h=>h.elim,fun h=>h.elim,fun h=>h.elim,fun h=>h.elim,fun h=>h.elim,fun h=>h.elim,fun _=>rfl,fun h=>h.elim⟩
theorem lQA (P B:Nat) (W:B≠P) (a6:List PanicEntry) (w:World) (hB:w.cell? ⟨B,0,none⟩=some (.pointer (some ⟨P,0,none⟩))) (u:Value) (hP:w.cell? ⟨P,15,none⟩=some u) (a7:w.frozen? ⟨P,15,none⟩=false) :
  CallsD Tryz.prog 74 #[.pointer (some ⟨B,0,none⟩)] (.panicking ({ v:=jamV,recovered:=false } :: a6)) w fun e u' w'=>e=.returned (.tuple #[])/\u'=.panicking ({ v:=jamV,recovered:=true } :: a6)/\w'=w.drew.setCell ⟨P,15,none⟩ (.bool true):=by
 refine callsD_of_wpS Tryz.func74 rfl fun c₀ cs hu=>?_
 refine iYA P B W jamV true (c₀ :: cs) ({ c₀ with mode:=.panicking ({ v:=jamV,recovered:=true } :: a6) } :: cs) w hB u hP a7 (.inl (by simp[recoverD,hu])) (fun w=>gQ) _ rfl rfl _ ?_ _ gQ _;intro a hf;exact⟨hf.defers,_,rfl,_,results_none rfl _ _ _,rfl,rfl,rfl⟩
theorem aOA (P B:Nat) (W:B≠P) (w:World) (hB:w.cell? ⟨B,0,none⟩=some (.pointer (some ⟨P,0,none⟩))) (u:Value) (hP:w.cell? ⟨P,15,none⟩=some u) (a7:w.frozen? ⟨P,15,none⟩=false) :
  CallsD Tryz.prog 74 #[.pointer (some ⟨B,0,none⟩)] .returning w fun e u' w'=>e=.returned (.tuple #[])/\u'=.returning/\w'=w.drew.setCell ⟨P,15,none⟩ (.bool false):=by
 refine callsD_of_wpS Tryz.func74 rfl fun c₀ cs hu=>?_
 refine iYA P B W .nilIface false (c₀ :: cs) (c₀ :: cs) w hB u hP a7 (.inr ⟨by simp[recoverD,hu],rfl,rfl⟩) (fun w=>gQ) _ rfl rfl _ ?_ _ gQ _;intro a hf;refine⟨hf.defers,.returning,?_,_,results_none rfl _ _ _,rfl,rfl,rfl⟩;cases c₀
 simp_all
def FinR (N:Nat) (E:List EvN) (ax:Option Addr) (ec P:Nat) (s:ShotN) (w:World):Prop:=
 ∃ (st:List Int) (ma:Option Addr) (U mc:Nat) (ta:Option Addr) (n2 tc:Nat) (sa:Option Addr) (n3 sc:Nat) (pa:Option Addr) (n4 pc l1 h1 l2 h2 l3 h3 l4 h4 k:Nat),
  U=s.mem.length/\n2=s.trace.length/\n3=st.length/\n4=s.cpus.length/\st=s.starts.map (fun (n:Nat)=>(n:Int)) /\
  BoxN w P 83 (xBA s.cpu (.slice ma U mc) (.slice ta n2 tc) (.slice sa n3 sc) (.slice pa n4 pc) s.jam (.slice ax E.length ec) k) /\
  SegB w l1 h1 (.slice ma U mc) s.mem/\SegC w l2 h2 (.slice ta n2 tc) s.trace/\SegG encI w l3 h3 (.slice sa n3 sc) st/\SegG wEA w l4 h4 (.slice pa n4 pc) s.cpus /\
  iDA N w.heap.size P l1 h1 l2 h2 l3 h3 l4 h4
theorem nCB {E:List EvN} {k:Nat} {s:ShotN} (h0:s.jam=false) (h:(unitN E k s).jam=true):unitN E k s={ s with jam:=true }:=by
 have d2:∀ r,(s.on r).jam=s.jam:=fun _=>rfl
 unfold unitN at h ⊢;split at h
 ·rw[d2,h0] at h;cases h
 ·rename_i U;rw[if_neg U];split at h
  ·rw[d2,h0] at h;cases h
  ·rename_i hq;rw[if_neg hq];split at h
   ·rename_i hj;rw[if_pos hj]
   ·rw[d2,h0] at h;cases h
theorem xJA {N:Nat} {c:CpuN} {L:List Nat} {E:List EvN} {ax:Option Addr} {ec P B k:Nat} {w:World} (h:InvR N c L E ax ec P B k w) (b:Bool):∃ s,Under c L E k s/\FinR N E ax ec P { s with jam:=b } (w.drew.setCell ⟨P,15,none⟩ (.bool b)) /\
  w.cell? ⟨B,0,none⟩=some (.pointer (some ⟨P,0,none⟩))/\w.cell? ⟨P,15,none⟩=some (.bool false)/\w.frozen? ⟨P,15,none⟩=false/\B≠P/\N<=P:=by
 obtain⟨s,st,ma,U,mc,ta,n2,tc,sa,n3,sc,pa,n4,pc,l1,h1,l2,h2,l3,h3,l4,h4,e1,e2,e3,e4,hst,hU,a8,pI,j1,mI,tI,sI,qI,hz,j8⟩:=h;have sp:Span P (P+1) w.drew (w.drew.setCell ⟨P,15,none⟩ (.bool b)):=Span.set _ _ _ _;have hq:BoxN (w.drew.setCell ⟨P,15,none⟩ (.bool b)) P 83 (xBA s.cpu (.slice ma U mc) (.slice ta n2 tc) (.slice sa n3 sc) (.slice pa n4 pc) b (.slice ax E.length ec) k):=BoxN.set pI.drew 15 (.bool b);have d3:(w.drew.setCell ⟨P,15,none⟩ (.bool b)).heap.size=w.heap.size:=yQ;unfold iDA at hz;refine⟨s,hU,⟨st,ma,U,mc,ta,n2,tc,sa,n3,sc,pa,n4,pc,l1,h1,l2,h2,l3,h3,l4,h4,k,e1,e2,e3,e4,hst,hq,mI.drew.span sp dQ,tI.drew.span sp dQ,sI.drew.span sp dQ,qI.drew.span sp dQ,by rw[d3];unfold iDA;exact hz⟩,j1.cell 0 _ rfl,pI.cell 15 _ rfl,pI.frozen 15,dQ,dQ⟩
theorem sBB (HI:uCA) (HV:kCA) (HJ:jCA) (c:CpuN) (hc:c.ok) (L:List Nat) (b4:ramN L.length=true) (E:List EvN) (hE:E.length<=1048576) (ax:Option Addr) (ec P:Nat) (n:Int) (hn:0<=n/\n<=120) (w0 wr:World) (e9:RowG encEv w0 ax E) (hb:Below w0.heap.size w0 wr)
  (ma:Option Addr) (mc lo hi:Nat) (pI:BoxN wr P 83 (xBA c (.slice ma L.length mc) (.slice none 0 0) (.slice none 0 0) (.slice none 0 0) false (.slice ax E.length ec) 0)) (mI:SegB wr lo hi (.slice ma L.length mc) L)
  (hz:w0.heap.size<=lo/\lo<=hi/\hi<=wr.heap.size/\w0.heap.size<=P/\(P+1<=lo\/hi<=P)/\P < wr.heap.size) :
  Calls Tryz.prog 39 #[.pointer (some ⟨P,0,none⟩),.int .i64 n] wr fun e w'=>e=.returned (.tuple #[])/\FinR w0.heap.size E ax ec P (runN c L E n.toNat) w'/\Below w0.heap.size w0 w':=by
 have j5:∀ (fn:Fn) (first cap:Array Value) (w:World),(Instr.makeFunc fn first cap).run Tryz.prog w=.ok (.func fn first cap) w:=fun _ _ _ _=>rfl
 have hz0:=hb.size;have bx:=BoxN.new wr 116 #[.pointer (some ⟨P,0,none⟩)];have al:=alw wr (.cells #[.pointer (some ⟨P,0,none⟩)] 116);have a8:L.length<=mc:=by
  obtain⟨a_,c_,e_,j7⟩:=mI.len;simp only[Value.slice.injEq] at e_;omega
 have b1:∀ k,(Value.slice none 0 0).ownBlock=some k->k < lo:=fun k ek=>bQb
 have b7:Hid (InvR w0.heap.size c L E ax ec P wr.heap.size 0 (wr.alloc (.cells #[.pointer (some ⟨P,0,none⟩)] 116))/\Below w0.heap.size w0 (wr.alloc (.cells #[.pointer (some ⟨P,0,none⟩)] 116))):=
  j_ ⟨⟨tBA c L,[],ma,_,mc,none,_,0,none,_,0,none,_,0,lo,hi,lo,lo,lo,lo,lo,lo,rfl,rfl,rfl,rfl,rfl,Under.begin c hc L E,a8,pI.below al,bx,mI.below al,⟨World.ownsRow_nil _ _ _ _,b1⟩,⟨World.ownsRow_nil _ _ _ _,b1⟩,⟨World.ownsRow_nil _ _ _ _,b1⟩,by
   have hs:(wr.alloc (.cells #[.pointer (some ⟨P,0,none⟩)] 116)).heap.size=wr.heap.size+1:=World.size_alloc _ _;refine⟨?_,?_⟩
   ·unfold iDA;omega
   ·omega⟩,hb.trans (al.mono hz0)⟩
 obtain⟨B,hB⟩:∃ B,wr.heap.size=B:=⟨_,rfl⟩;have d4:=j_ e9;have b2:=j_ b4;clear pI mI hz bx al a8 b1 hb e9 b4 hz0;go_enter_defers Tryz.func39,Tryz.ntmps39;go_wp2_with fail;rw[hB] at b7;go_loopw [6] (fun i wk=>∃ k:Nat,i=.int .i64 k/\(k:Int)<=n/\Hid (InvR w0.heap.size c L E ax ec P B k wk/\Below w0.heap.size w0 wk)) (fun i _=>n.toNat - (intOf i).toNat)
 case atStart=>exact⟨0,rfl,dQ,b7⟩
 case round=>
  obtain⟨k,rfl,hk,HIn⟩:=hrel;obtain⟨O,a4⟩:=HIn.out;clear b7;by_cases hp:(k:Int) < n
  ·by_cases hj:wHA E c L k
   ·have HP:=mPA HI HV HJ c L b2.out E hE ax ec P B k dQ w0 _ d4.out a4 O hj;obtain⟨_,_,_,a9,_,_,_,_⟩:=xJA O true;go_wp2_with fail;refine HP.mono ?_;rintro e w1 ⟨rfl,d1⟩;obtain⟨s,hU,hF,c0,c7,c8,W,b9⟩:=xJA (O.below d1) true;have a5:runN c L E n.toNat={ s with jam:=true }:=by
     have c9:=hj;unfold wHA at c9;rw[<-hU.is] at c9;exact hU.jams (nCB hU.jam c9) _ dQ
    rw[<-a5] at hF;have b8:Below w0.heap.size w0 (w1.drew.setCell ⟨P,15,none⟩ (.bool true)):=Below.setCell (p:=⟨P,15,none⟩) ((a4.trans (d1.mono a4.size)).drew) b9 _;clear j5 O a4 a5
    (try simp only[Exit.inBlock,Exit.then])
    refine leaves_cons (f:=74) (args:=#[.pointer (some ⟨B,0,none⟩)]) yQ (by simp[go_sem]) ?_;refine (lQA P B W [] w1 c0 _ c7 c8).mono ?_;rintro e u' w2 ⟨rfl,rfl,rfl⟩;exact⟨_,results_none rfl _ _ _,rfl,hF,b8⟩
   ·have HP:=uRA HI HV HJ c L b2.out E hE ax ec P B k dQ w0 _ d4.out a4 O hj;obtain⟨_,_,_,a9,_,_,_,_⟩:=xJA O true;clear O a4;go_wp2_with fail;refine HP.mono ?_;rintro e w1 ⟨rfl,hI1,hb1⟩;have HN:=j_ (And.intro hI1 hb1);clear hI1 hb1 a9;go_wp2;go_roundw
    case rel=>exact⟨k+1,bQh,dQ,HN⟩
    case measure=>simp[intOf];omega
  ·obtain⟨s,hU,hF,c0,c7,c8,W,b9⟩:=xJA O false;have a5:runN c L E n.toNat={ s with jam:=false }:=by
    have e1:n.toNat=k:=dQ;rw[e1];have e2:({ s with jam:=false }:ShotN)=s:=by
     have:=hU.jam;cases s
     simp_all
    rw[e2,hU.is];rfl
   rw[<-a5] at hF;have b8:=Below.setCell (p:=⟨P,15,none⟩) (a4.drew) b9 (.bool false);clear O a4 a5;go_wp2_with fail;refine leaves_cons (f:=74) (args:=#[.pointer (some ⟨B,0,none⟩)]) yQ (by simp[go_sem]) ?_;refine (aOA P B W _ c0 _ c7 c8).mono ?_;rintro e u' w2 ⟨rfl,rfl,rfl⟩;exact⟨_,results_none rfl _ _ _,rfl,hF,b8⟩

end Go.Proofs.YtckfdbjjjgfbfaaGreat
