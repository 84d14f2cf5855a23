/-
  For every code the law FnCold returns true: a cold processor begins where its vector tells, without interrupts. There are no conditions.
-/
import Derived.Test.YtckfdbjjjgfbfaaGreatRPhr
import Derived.Test.YtckfdbjjjgfbfaaGreatRows
import Derived.WalkKit
import Derived.ProofKit
import Derived.OpenShut
import Derived.ShutString
import Derived.ChangeOld
import Derived.Below
import Derived.Test.YtckfdbjjjgfbfaaGreatRCodeArg
import Derived.Test.YtckfdbjjjgfbfaaGreatRPlayU
import Derived.Test.YtckfdbjjjgfbfaaGreatRImplJams
set_option linter.unusedVariables false
set_option maxRecDepth 100000
namespace Go.Proofs.YtckfdbjjjgfbfaaGreat
open Go.ChangeShapes Go.WideShapes Go.ChangeAt Go.RowKit
open Go.ChangeMaps (open_string shut_string)
namespace fnCold
theorem own:ownKnob Tryz.prog.godebug=none:=gQ
theorem zGA:laidOutB Tryz.prog=true:=gQ
def IsRow (k:IntKind) (w:World) (a:Option Addr) (len cap:Nat) (J:List Int):Prop:=
 (a=none/\len=0/\cap=0/\J=[]) \/
 ∃ x,a=some x/\len<=cap/\cap<=maxLen/\J.length=cap/\(∀ i,i < J.length->w.cell? (x.add i)=some (.int k (J.getD i 0)))/\∀ n ∈ J,(Lit.int k n).wf=true
theorem nLA (a:Option Addr) (len cap:Nat) (w:World) (h:1048576 < len) :
  Calls Tryz.prog 4 #[.slice a len cap] w fun e w'=>e=.returned (.bool true)/\Below w.heap.size w w':=by
 have K:decide ((1048576:Int) < len)=true:=qQ;go_enter Tryz.func4,Tryz.ntmps4;go_wp2_with fail;refine (zKA _ _ _ _).mono ?_;rintro e w' ⟨rfl,rfl⟩;rw[K];clear K;go_wp2;go_ret;exact⟨rfl,Below.refl _ _⟩
theorem walk (w:World) (Q:Option Addr) (r z:Nat) (T:List Int) (w0:IsRow .u8 w Q r z T) :
  Calls Tryz.prog 4 #[.slice Q r z] w fun e w'=>e=.returned (.bool true)/\Below w.heap.size w w':=by
 by_cases hl:r<=1048576
 ·exact hZA (mLA sNA hQA tQA qNA oLA) lDB oLA Q r z T w (tHB (show xVA w Q r z T from w0) hl) hl
 ·exact nLA Q r z w dQ
theorem lQA (os:Os) (B:os.Started) (H:Type) (enc:TypeId×Value->H) :
  ReturnsInHanded {} Tryz.checked os 4 .any (Rows.fnColdSpec.pre6 enc Tryz.prog Tryz.f4 Rows.fnColdRow.domain false) (Rows.fnColdSpec.post enc Tryz.prog Tryz.f4 false true false false):=by
 refine returnsInHanded_of_change (C:=Tryz.checked) own B gQ Tryz.func4
  (ChangeSpec.witness6 (enc:=enc) (C:=Tryz.checked) false ⟨#[],#[.slice none 0 0],[]⟩ 8 gQ gQ gQ gQ) ?_
 intro W base args ds gs a2 E hW a8 _;have O:∀ (j:Nat) t v,Tryz.f4.params[j]?=some t->args[j]?=some v->Value.okWide Tryz.prog W .any base t v:=E;have a3:=hW;obtain⟨p,q,U,hV,rfl,hfz,hnd⟩:=hW;have hA:DataW.TrodAll enc Tryz.prog W 0 (fun _=>true) true Tryz.f4.params.toList args.toList ds p:=U;rw[Tryz.params4] at hA O;obtain⟨v0,b0,d0,a9,p0,q0,a5,rfl,rfl,h0,r0⟩:=trodAll_cons hA;obtain⟨rfl,rfl,rfl⟩:=trodAll_nil r0;obtain rfl:args=#[v0]:=by cases args;simp_all
 obtain⟨rfl,rfl⟩:=trodVars_none hV;have k0:=h0;have a4:∀ x ∈ p0,x.block < W.heap.size:=by obtain⟨m,hm⟩:=k0;exact DataW.trod_lt m _ _ _ hm
 obtain⟨Q,r,z,rfl⟩:=okWide_slice Tryz.underlying22 (O 0 22 v0 rfl rfl);obtain⟨T,w0⟩:∃ J,IsRow .u8 W Q r z J:=by
  obtain⟨a7,hf⟩:=h0;rcases open_ints Tryz.underlying22 Tryz.underlying5 gQ hf with ⟨hcs,_⟩|⟨x,l,c,J,hcs,_,hl,hm,hz,_,R,a6⟩
  ·simp[Value.cells] at hcs;obtain⟨rfl,rfl,rfl⟩:=hcs;exact⟨[],.inl ⟨rfl,rfl,rfl,rfl⟩⟩
  ·simp[Value.cells] at hcs;obtain⟨rfl,rfl,rfl⟩:=hcs;exact⟨J,.inr ⟨_,rfl,hl,hm,by simpa using hz,R,a6⟩⟩
 clear U E;refine (walk W Q r z T w0).mono fun e W' ⟨he,a1⟩=>?_
 subst he;exact⟨_,rfl,_,_,_,[],_,[],a3,trodAll_mk1 (shut_bool Tryz.underlying4 _),(trodAll_cons_mk (Below.trod zGA gQ (of_decide_eq_true gQ) k0 a1 a4) trodAll_mk0),rfl,a1.frame _,fun h=>by cases h⟩
theorem over:Rows.fnColdRow.holds Tryz.pinned (OpenSpec.ofChange Rows.fnColdSpec):=
 OpenClaim.holds_of_wide 4 Tryz.f4 rfl rfl rfl rfl rfl rfl rfl ⟨rfl,rfl,rfl,rfl,rfl⟩ rfl rfl rfl rfl rfl gQ Tryz.func4 gQ
  (of_decide_eq_true gQ) (by unfold Func.isWrapper;first|(rw[if_pos qQa];kernel_rfl)|(rw[if_neg qQa];exact⟨rfl,rfl⟩))
  (fun os B H enc _=>lQA os B H enc)
theorem proved:Rows.FnColdSaid:=over
#print axioms proved

end fnCold
end Go.Proofs.YtckfdbjjjgfbfaaGreat
