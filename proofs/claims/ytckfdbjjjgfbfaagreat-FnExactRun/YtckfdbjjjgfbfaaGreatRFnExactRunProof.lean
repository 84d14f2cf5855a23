/-
  For every processor, memory, list of events and number of units the law FnExactRun returns true: the program's Run answers as the model's does, writes into no argument, and its answer owns its memory. There are no conditions.
-/
import Derived.Test.YtckfdbjjjgfbfaaGreatRPhr
import Derived.Test.YtckfdbjjjgfbfaaGreatRCells
import Derived.Test.YtckfdbjjjgfbfaaGreatRows
import Derived.WalkKit
import Derived.ProofKit
import Derived.OpenShut
import Derived.ShutString
import Derived.ChangeOld
import Derived.Below
import Derived.Test.YtckfdbjjjgfbfaaGreatRWideB
import Derived.Test.YtckfdbjjjgfbfaaGreatRRowH
import Derived.Test.YtckfdbjjjgfbfaaGreatRImplJams
import Derived.Test.YtckfdbjjjgfbfaaGreatRPlayU
set_option linter.unusedVariables false
set_option maxRecDepth 100000
namespace Go.Proofs.YtckfdbjjjgfbfaaGreat
open Go.ChangeShapes Go.WideShapes Go.ChangeAt Go.RowKit
open Go.ChangeMaps (open_string shut_string)
namespace fnExactRun
theorem own:ownKnob Tryz.prog.godebug=none:=gQ
theorem zGA:laidOutB Tryz.prog=true:=gQ
theorem nLA (c:CpuN) (a:Option Addr) (n1 cap:Nat) (ax:Option Addr) (n2 ec:Nat) (n:Int) (w:World) (m1:n1<=maxLen) (c1:1048576 < n1) :
  Calls Tryz.prog 5 #[cpuV c,ramV (.slice a n1 cap),.slice ax n2 ec,.int .i64 n] w fun e w'=>e=.returned (.bool true)/\Below w.heap.size w w':=by
 have b7:=fun w=>eKA a n1 cap 1048576 m1 dQ w
 rw[if_pos dQ] at b7;have b0:=bstep (alw w (.cells (dAA c) 52)) (alw (w.alloc (.cells (dAA c) 52)) (.cells #[.slice a n1 cap] 53));go_enter Tryz.func5,Tryz.ntmps5;go_wp2_with fail;refine (b7 _).mono ?_;rintro e w1 ⟨rfl,d1⟩;have b1:=bstep b0 d1;go_wp2;go_ret;exact⟨rfl,b1⟩
theorem sAB (c:CpuN) (a:Option Addr) (n1 cap:Nat) (ax:Option Addr) (n2 ec:Nat) (n:Int) (w:World) (m1:n1<=1048576) (m2:n2<=maxLen) (c1:1048576 < n1+n2) :
  Calls Tryz.prog 5 #[cpuV c,ramV (.slice a n1 cap),.slice ax n2 ec,.int .i64 n] w fun e w'=>e=.returned (.bool true)/\Below w.heap.size w w':=by
 have b7:=fun w=>eKA a n1 cap 1048576 wQc dQ w
 rw[if_neg dQ] at b7;obtain⟨q1,c8⟩:∃ q,(1048576:Int) - (n1:Int)=q:=⟨_,rfl⟩;rw[c8] at b7;have c9:=fun w=>eLA ax n2 ec q1 m2 dQ w
 rw[if_pos dQ] at c9;have e8:¬ q1 < 0:=dQ;clear c8;have b0:=bstep (alw w (.cells (dAA c) 52)) (alw (w.alloc (.cells (dAA c) 52)) (.cells #[.slice a n1 cap] 53));go_enter Tryz.func5,Tryz.ntmps5;go_wp2_with fail;refine (b7 _).mono ?_;rintro e w1 ⟨rfl,d1⟩;have b1:=bstep b0 d1;go_wp2_with fail;refine (c9 _).mono ?_;rintro e w2 ⟨rfl,d2⟩;have b2:=bstep b1 d2;go_wp2;go_ret;exact⟨rfl,b2⟩
theorem walk (w:World) (b6:Int) (a4:(Lit.int .u8 b6).wf=true) (b3:Int) (a9:(Lit.int .u8 b3).wf=true) (b5:Int) (a8:(Lit.int .u8 b5).wf=true) (a6:Int) (a7:(Lit.int .u8 a6).wf=true) (b4:Int) (a1:(Lit.int .u16 b4).wf=true) (R:Bool) (Q:Bool) (T:Bool) (U:Bool) (O:Bool) (r:Bool) (K:Option Addr) (z l:Nat) (b9:RowOf [some .u8] w K z l) (a2:Option Addr) (a5 B:Nat) (w2:RowOf [some .i64,none] w a2 a5 B) (a3:Int) (w3:(Lit.int .i64 a3).wf=true) :
  Calls Tryz.prog 5 #[.agg #[.int .u8 b6,.int .u8 b3,.int .u8 b5,.int .u8 a6,.int .u16 b4,.bool R,.bool Q,.bool T,.bool U,.bool O,.bool r],.agg #[.slice K z l],.slice a2 a5 B,.int .i64 a3] w fun e w'=>e=.returned (.bool true)/\Below w.heap.size w w':=by
 obtain⟨n0,rfl⟩:=Int.eq_ofNat_of_zero_le (bounds_u8 a4).1;have h0:=(bounds_u8 a4).2;obtain⟨n1,rfl⟩:=Int.eq_ofNat_of_zero_le (bounds_u8 a9).1;have h1:=(bounds_u8 a9).2;obtain⟨n2,rfl⟩:=Int.eq_ofNat_of_zero_le (bounds_u8 a8).1;have h2:=(bounds_u8 a8).2;obtain⟨n3,rfl⟩:=Int.eq_ofNat_of_zero_le (bounds_u8 a7).1;have h3:=(bounds_u8 a7).2;obtain⟨n4,rfl⟩:=Int.eq_ofNat_of_zero_le (bounds_u16 a1).1;have h4:=(bounds_u16 a1).2;obtain⟨L,rfl,hr,hm0,hm1⟩:=mJB b9;obtain⟨E,rfl,hre,_,hm2,hm3⟩:=zHB w2;by_cases hl:L.length+E.length<=1048576
 ·exact pHB (mLA sNA hQA tQA qNA oLA) ⟨n0,n1,n2,n3,n4,R,Q,T,U,O,r⟩ ⟨by show n0 < 256;omega,by show n1 < 256;omega,by show n2 < 256;omega,by show n3 < 256;omega,by show n4 < 65536;omega⟩ K l L a2 B E a3 w hl hr hre
 ·by_cases e4:L.length<=1048576
  ·exact sAB ⟨n0,n1,n2,n3,n4,R,Q,T,U,O,r⟩ K L.length l a2 E.length B a3 w e4 dQ dQ
  ·exact nLA ⟨n0,n1,n2,n3,n4,R,Q,T,U,O,r⟩ K L.length l a2 E.length B a3 w dQ dQ
theorem lQA (os:Os) (J:os.Started) (H:Type) (enc:TypeId×Value->H) :
  ReturnsInHanded {} Tryz.checked os 5 .any (Rows.fnExactRunSpec.pre6 enc Tryz.prog Tryz.f5 Rows.fnExactRunRow.domain false) (Rows.fnExactRunSpec.post enc Tryz.prog Tryz.f5 false true false false):=by
 refine returnsInHanded_of_change (C:=Tryz.checked) own J gQ Tryz.func5
  (ChangeSpec.witness6 (enc:=enc) (C:=Tryz.checked) false ⟨#[],#[.agg (zQ []).toArray,.agg #[.slice none 0 0],.slice none 0 0,.int .i64 0],[]⟩ 8 gQ gQ gQ gQ) ?_
 intro W base args ds gs d4 b8 hW i1 _;have a0:∀ (j:Nat) t v,Tryz.f5.params[j]?=some t->args[j]?=some v->Value.okWide Tryz.prog W .any base t v:=b8;have d6:=hW;obtain⟨p,q,c7,hV,rfl,hfz,hnd⟩:=hW;have hA:DataW.TrodAll enc Tryz.prog W 0 (fun _=>true) true Tryz.f5.params.toList args.toList ds p:=c7;rw[Tryz.params5] at hA a0;obtain⟨v0,j5,d0,j1,p0,q0,d7,rfl,rfl,h0,r0⟩:=trodAll_cons hA;obtain⟨v1,i9,d1,j6,p1,q1,rfl,rfl,rfl,h1,r1⟩:=trodAll_cons r0;obtain⟨v2,j0,d2,j4,p2,q2,rfl,rfl,rfl,h2,r2⟩:=trodAll_cons r1;obtain⟨v3,j3,d3,j2,p3,q3,rfl,rfl,rfl,h3,r3⟩:=trodAll_cons r2;obtain⟨rfl,rfl,rfl⟩:=trodAll_nil r3;obtain rfl:args=#[v0,v1,v2,v3]:=by cases args;simp_all
 obtain⟨rfl,rfl⟩:=trodVars_none hV;have k0:=h0;have d9:∀ x ∈ p0,x.block < W.heap.size:=by obtain⟨m,hm⟩:=k0;exact DataW.trod_lt m _ _ _ hm
 have k1:=h1;have e1:∀ x ∈ p1,x.block < W.heap.size:=by obtain⟨m,hm⟩:=k1;exact DataW.trod_lt m _ _ _ hm
 have k2:=h2;have e0:∀ x ∈ p2,x.block < W.heap.size:=by obtain⟨m,hm⟩:=k2;exact DataW.trod_lt m _ _ _ hm
 have k3:=h3;have e3:∀ x ∈ p3,x.block < W.heap.size:=by obtain⟨m,hm⟩:=k3;exact DataW.trod_lt m _ _ _ hm
 obtain⟨l0,rfl,F0_0⟩:=fCB 6 (show flat Tryz.prog 6 52=some [some .u8,some .u8,some .u8,some .u8,some .u16,none,none,none,none,none,none] by kernel_rfl) Tryz.underlying52 (a0 0 52 v0 rfl rfl) h0;obtain⟨_,i4,rfl,⟨b6,rfl,a4⟩,F0_1⟩:=eCA F0_0;obtain⟨_,i6,rfl,⟨b3,rfl,a9⟩,F0_2⟩:=eCA F0_1;obtain⟨_,i7,rfl,⟨b5,rfl,a8⟩,F0_3⟩:=eCA F0_2;obtain⟨_,i3,rfl,⟨a6,rfl,a7⟩,F0_4⟩:=eCA F0_3;obtain⟨_,e7,rfl,⟨b4,rfl,a1⟩,F0_5⟩:=eCA F0_4;obtain⟨_,e6,rfl,⟨R,rfl⟩,F0_6⟩:=eCA F0_5;obtain⟨_,i2,rfl,⟨Q,rfl⟩,F0_7⟩:=eCA F0_6;obtain⟨_,i0,rfl,⟨T,rfl⟩,F0_8⟩:=eCA F0_7;obtain⟨_,i5,rfl,⟨U,rfl⟩,F0_9⟩:=eCA F0_8;obtain⟨_,e2,rfl,⟨O,rfl⟩,F0_10⟩:=eCA F0_9;obtain⟨_,d8,rfl,⟨r,rfl⟩,F0_11⟩:=eCA F0_10;obtain rfl:=sIA F0_11;obtain⟨l1,rfl,F1_0⟩:=sBB 8 (show flatW Tryz.prog 8 53=some [.sl [some .u8]] by kernel_rfl) Tryz.underlying53 (a0 1 53 v1 rfl rfl) h1;obtain⟨_,e9,rfl,⟨K,z,l,rfl,b9⟩,F1_1⟩:=uIA F1_0;obtain rfl:=vNA F1_1;obtain⟨a2,a5,B,rfl,w2⟩:=nMA 8 (show flatW Tryz.prog 8 54=some [.sl [some .i64,none]] by kernel_rfl) Tryz.underlying54 (a0 2 54 v2 rfl rfl) h2;obtain⟨a3,rfl,_,_,w3⟩:=open_int Tryz.underlying3 (a0 3 3 v3 rfl rfl) h3;clear c7 b8;refine (walk W b6 a4 b3 a9 b5 a8 a6 a7 b4 a1 R Q T U O r K z l b9 a2 a5 B w2 a3 w3).mono fun e W' ⟨he,c0⟩=>?_
 subst he;exact⟨_,rfl,_,_,_,[],_,[],d6,trodAll_mk1 (shut_bool Tryz.underlying4 _),(trodAll_cons_mk (Below.trod zGA gQ (of_decide_eq_true gQ) k0 c0 d9) (trodAll_cons_mk (Below.trod zGA gQ (of_decide_eq_true gQ) k1 c0 e1) (trodAll_cons_mk (Below.trod zGA gQ (of_decide_eq_true gQ) k2 c0 e0) (trodAll_cons_mk (Below.trod zGA gQ (of_decide_eq_true gQ) k3 c0 e3) trodAll_mk0)))),rfl,c0.frame _,fun h=>by cases h⟩
theorem over:Rows.fnExactRunRow.holds Tryz.pinned (OpenSpec.ofChange Rows.fnExactRunSpec):=
 OpenClaim.holds_of_wide 5 Tryz.f5 rfl rfl rfl rfl rfl rfl rfl ⟨rfl,rfl,rfl,rfl,rfl⟩ rfl rfl rfl rfl rfl gQ Tryz.func5 gQ
  (of_decide_eq_true gQ) (by unfold Func.isWrapper;first|(rw[if_pos qQa];kernel_rfl)|(rw[if_neg qQa];exact⟨rfl,rfl⟩))
  (fun os J H enc _=>lQA os J H enc)
theorem proved:Rows.FnExactRunSaid:=over
#print axioms proved

end fnExactRun
end Go.Proofs.YtckfdbjjjgfbfaaGreat
