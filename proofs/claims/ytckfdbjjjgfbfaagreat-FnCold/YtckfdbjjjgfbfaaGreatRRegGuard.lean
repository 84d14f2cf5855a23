import Derived.Test.YtckfdbjjjgfbfaaGreatRRowG
set_option linter.unusedVariables false
set_option linter.unusedSimpArgs false
namespace Go.Proofs.YtckfdbjjjgfbfaaGreat
open Go.RowKit
abbrev IsOpG (j:Array Oper) (i:Nat) (dst:Option Tmp) (op:Op) (g:Nat):Prop:=(j[i]?).map (fun o=>(o.dst,o.op,o.guard))=some (dst,op,some (g,true))
def CanOp (j:Array Oper) (i:Nat) (dst:Option Tmp) (op:Op) (a:Act):Prop:=∃ o,j[i]?=some o/\Region.wanted o (yielded j a.tmps)=true/\o.dst=dst/\o.op=op
theorem IsOpG.can {j:Array Oper} {i g d:Nat} {dst:Option Tmp} {op J:Op} {a:Act} (h:IsOpG j i dst op g) (H:IsOp j g (some d) J) (hs:a.eval (.tmp d)=.bool true):CanOp j i dst op a:=by
 obtain⟨o',h1,_,h3,_⟩:=isOp H;unfold IsOpG at h;cases ho:j[i]? with
 | none=>rw[ho] at h;cases h
 | some o=>
  rw[ho] at h;simp only[Option.map_some,Option.some.injEq,Prod.mk.injEq] at h;obtain⟨T,e2,U⟩:=h;refine⟨o,ho,?_,T,e2⟩;have W:a.tmps[d]?=some (.bool true):=by
   simp only[Act.eval,Array.getD_eq_getD_getElem?] at hs;cases hd:a.tmps[d]? with
   | none=>rw[hd] at hs;cases hs
   | some v=>rw[hd] at hs;simp only[Option.getD_some] at hs;rw[hs]
  have hy:yielded j a.tmps g=some true:=by
   unfold yielded;rw[h1];simp only[Option.bind_some,h3,W]
  unfold Region.wanted;rw[U];simp only[hy];rfl
section
variable {P:Program} {j:Array Oper} {Q:Exit->Act->World->Prop} {K:Act->World->Prop} {a:Act} {w w':World} {i d:Nat} {v:Value}
theorem wRA {o:Oper} (ho:j[i]?=some o) (H:Region.wanted o (yielded j a.tmps)=true) (h:Oper.wp P o a w K Q):wpOp P j Q i K a w:=by
 unfold wpOp;rw[ho];simp only[H,if_true];exact .inl h
theorem aEA {op:Op} (l:CanOp j i (some d) op a) (h:∀ o,o.op=op->(execOp a.eval o).run P w=.ok (.value v) w') (E:K (a.put (some d) v) w'):wpOp P j Q i K a w:=by
 obtain⟨o,h1,h2,h3,h4⟩:=l;refine wRA h1 h2 ?_;unfold Oper.wp;rw[h o h4,Oper.upon_value,h3];exact E
theorem rTA {op:Op} {f:FuncId} {args:Array Value} (l:CanOp j i (some d) op a) (h:∀ o,o.op=op->(execOp a.eval o).run P w=.ok (.enter f args) w)
  (O:Calls P f args w fun e w'=>∃ v,e=.returned v/\K (a.put (some d) v) w'):wpOp P j Q i K a w:=by
 obtain⟨o,h1,h2,h3,h4⟩:=l;refine wRA h1 h2 ?_;unfold Oper.wp;rw[h o h4,Oper.upon_enter,h3];refine O.mono ?_;rintro e a0 ⟨v,rfl,hk⟩;exact hk
theorem mHA {t:TypeId} {x:Operand} {p:Value} (l:CanOp j i (some d) (.load t x) a) (hs:a.eval x=p) (hr:(Instr.loadAt t p).run P w=.ok v w) (E:K (a.put (some d) v) w):wpOp P j Q i K a w:=
 aEA l (fun o ho=>by unfold execOp;rw[ho];dsimp only;rw[hs,Sem.run_bind,hr];rfl) E
theorem uDB {f:FuncId} {R:Array Operand} {B:Array TypeId} {args:Array Value} (l:CanOp j i (some d) (.call ⟨.value (.func f),R,B⟩) a) (r:R.map a.eval=args) (z:(callFunc f args).run P w=.ok (.enter f args) w)
  (O:Calls P f args w fun e w'=>∃ v,e=.returned v/\K (a.put (some d) v) w'):wpOp P j Q i K a w:=by
 refine rTA l (fun o ho=>?_) O;unfold execOp;rw[ho];dsimp only;unfold resolve;dsimp only;rw[r];show Sem.run P (callFunc f ((#[]++args)++#[])) w=_;rw[Array.append_empty,Array.empty_append];exact z
end

end Go.Proofs.YtckfdbjjjgfbfaaGreat
