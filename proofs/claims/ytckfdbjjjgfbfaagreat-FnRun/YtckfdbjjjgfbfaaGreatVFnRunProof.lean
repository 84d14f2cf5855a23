/-
  For every code the law FnRun returns true: a run goes on where a shorter one ended, as long as nothing interrupts it. There are no conditions.
-/
import Derived.ShutString
import Derived.ChangeOld
import Derived.Test.YtckfdbjjjgfbfaaGreatVFnRunLaw
import Derived.Test.YtckfdbjjjgfbfaaGreatVSpecRun
import Derived.Test.YtckfdbjjjgfbfaaGreatVCodeArg
set_option linter.unusedVariables false
set_option maxRecDepth 100000
namespace Go.Proofs.YtckfdbjjjgfbfaaGreat
open Go.ChangeShapes Go.WideShapes Go.ChangeAt Go.RowKit
open Go.ChangeMaps (open_string shut_string)
namespace fnRun
theorem own:ownKnob Tryz.prog.godebug=none:=gQ
theorem xDB:laidOutB Tryz.prog=true:=gQ
def IsRow (k:IntKind) (w:World) (a:Option Addr) (len cap:Nat) (zs:List Int):Prop:=
 (a=none/\len=0/\cap=0/\zs=[]) \/
 ∃ x,a=some x/\len<=cap/\cap<=maxLen/\zs.length=cap/\(∀ i,i < zs.length->w.cell? (x.add i)=some (.int k (zs.getD i 0)))/\∀ n ∈ zs,(Lit.int k n).wf=true
theorem oCB (a:Option Addr) (len cap:Nat) (w:World) (h:1048576 < len) :
  Calls Tryz.prog 3 #[.slice a len cap] w fun e w'=>e=.returned (.bool true)/\Below w.heap.size w w':=by
 have O:decide ((1048576:Int) < len)=true:=qQ;go_enter Tryz.func3,Tryz.ntmps3;go_wp2_with fail;refine (bKA _ _ _ _).mono ?_;rintro e w' ⟨rfl,rfl⟩;rw[O];clear O;go_wp2;go_ret;exact⟨rfl,Below.refl _ _⟩
theorem walk (w:World) (K:Option Addr) (r z:Nat) (z0:List Int) (w0:IsRow .u8 w K r z z0) :
  Calls Tryz.prog 3 #[.slice K r z] w fun e w'=>e=.returned (.bool true)/\Below w.heap.size w w':=by
 by_cases T:r<=1048576
 ·exact aZA (iRA vXA vAB xAB wXA wAB) (fun c a cap L ax a1 E n w hc T hE hr a6=>gSA c a cap L ax a1 E n w hc T hE hr a6) K r z z0 w (xCB (show bTA w K r z z0 from w0) T) T
 ·exact oCB K r z w dQ
theorem xFB (os:Os) (B:os.Started) (H:Type) (enc:TypeId×Value->H) :
  ReturnsInHanded {} Tryz.checked os 3 .any (Rows.fnRunSpec.pre6 enc Tryz.prog Tryz.f3 Rows.fnRunRow.domain false) (Rows.fnRunSpec.post enc Tryz.prog Tryz.f3 false true false false):=by
 refine returnsInHanded_of_change (C:=Tryz.checked) own B gQ Tryz.func3
  (ChangeSpec.witness6 (enc:=enc) (C:=Tryz.checked) false ⟨#[],#[.slice none 0 0],[]⟩ 8 gQ gQ gQ gQ) ?_
 intro W base args ds gs a3 J hW b0 _;have Q:∀ (j:Nat) t v,Tryz.f3.params[j]?=some t->args[j]?=some v->Value.okWide Tryz.prog W .any base t v:=J;have a4:=hW;obtain⟨p,q,a2,hV,rfl,hfz,hnd⟩:=hW;have hA:DataW.TrodAll enc Tryz.prog W 0 (fun _=>true) true Tryz.f3.params.toList args.toList ds p:=a2;rw[Tryz.params3] at hA Q;obtain⟨v0,b2,d0,b1,p0,q0,a5,rfl,rfl,h0,r0⟩:=trodAll_cons hA;obtain⟨rfl,rfl,rfl⟩:=trodAll_nil r0;obtain rfl:args=#[v0]:=by cases args;simp_all
 obtain⟨rfl,rfl⟩:=trodVars_none hV;have k0:=h0;have a8:∀ x ∈ p0,x.block < W.heap.size:=by obtain⟨m,hm⟩:=k0;exact DataW.trod_lt m _ _ _ hm
 obtain⟨K,r,z,rfl⟩:=okWide_slice Tryz.underlying22 (Q 0 22 v0 rfl rfl);obtain⟨z0,w0⟩:∃ zs,IsRow .u8 W K r z zs:=by
  obtain⟨a9,hf⟩:=h0;rcases open_ints Tryz.underlying22 Tryz.underlying5 gQ hf with ⟨hcs,_⟩|⟨x,l,c,zs,hcs,_,T,hm,hz,_,R,a7⟩
  ·simp[Value.cells] at hcs;obtain⟨rfl,rfl,rfl⟩:=hcs;exact⟨[],.inl ⟨rfl,rfl,rfl,rfl⟩⟩
  ·simp[Value.cells] at hcs;obtain⟨rfl,rfl,rfl⟩:=hcs;exact⟨zs,.inr ⟨_,rfl,T,hm,by simpa using hz,R,a7⟩⟩
 clear a2 J;refine (walk W K r z z0 w0).mono fun e W' ⟨he,U⟩=>?_
 subst he;exact⟨_,rfl,_,_,_,[],_,[],a4,trodAll_mk1 (shut_bool Tryz.underlying4 _),(trodAll_cons_mk (Below.trod xDB gQ (of_decide_eq_true gQ) k0 U a8) trodAll_mk0),rfl,U.frame _,fun h=>by cases h⟩
theorem over:Rows.fnRunRow.holds Tryz.pinned (OpenSpec.ofChange Rows.fnRunSpec):=
 OpenClaim.holds_of_wide 3 Tryz.f3 rfl rfl rfl rfl rfl rfl rfl ⟨rfl,rfl,rfl,rfl,rfl⟩ rfl rfl rfl rfl rfl gQ Tryz.func3 gQ
  (of_decide_eq_true gQ) (by unfold Func.isWrapper;first|(rw[if_pos cQb];kernel_rfl)|(rw[if_neg cQb];exact⟨rfl,rfl⟩))
  (fun os B H enc _=>xFB os B H enc)
theorem proved:Rows.FnRunSaid:=over
#print axioms proved
end fnRun

end Go.Proofs.YtckfdbjjjgfbfaaGreat
