import Derived.Test.YtckfdbjjjgfbfaaGreatVPlayEq
import Derived.Test.YtckfdbjjjgfbfaaGreatVPlayX
import Derived.Test.YtckfdbjjjgfbfaaGreatVCut
set_option linter.unusedVariables false
set_option linter.unusedSimpArgs false
namespace Go.Proofs.YtckfdbjjjgfbfaaGreat
open Go.RowKit
open Go.ChangeShapes Go.WideShapes Go.RowKit
theorem dGB {b:Nat} (hb:b < 256):(eAA b=7->opId b=28)/\(eAA b=8->opId b=30)/\(eAA b=9->opId b=29)/\(eAA b=10->opId b=27)/\(eAA b=6->opId b=32):=
 uBA (p:=fun b=>(eAA b=7->opId b=28)/\(eAA b=8->opId b=30)/\(eAA b=9->opId b=29)/\(eAA b=10->opId b=27)/\(eAA b=6->opId b=32)) cQb hb
theorem op_sz {b:Nat} (hb:b < 256):eAA b≠0->sAA b=gDA (iAA b):=
 uBA (p:=fun b=>eAA b≠0->sAA b=gDA (iAA b)) cQb hb
theorem dGA {b:BusN} {c:CpuN} {n:Nat} {l:List UInt8} (h1:eAA n≠1) (h2:eAA n≠2) (h3:eAA n≠3) (h4:eAA n≠4) (h5:eAA n≠5) (W:(lAA n).toList=l):opB b c n=goN b c l (iAA n):=by
 unfold opB;rw[if_neg h1,if_neg h5,if_neg dQ,W]
theorem cBB (c:CpuN) (hc:c.ok) (b:BusN) (hb:∀ a,b.get a < 256) (n:Nat) (z:n < 256) (h0:eAA n≠0):(⟨{ c with PC:=(c.PC+1) % 65536 },b⟩:St).kindP n=⟨(opB b c n).1,(opB b c n).2⟩:=by
 obtain⟨o7,o8,o9,a1,o6⟩:=dGB z;rcases rTA z with h|h|h|h|h|h|h|h|h|h|h|h|h
 ·exact absurd h h0
 ·unfold St.kindP opB;simp only[h,if_true];rw[impLq];exact St.ext' rfl (rd_of _ dQ)
 ·obtain⟨_,B⟩:=op_k2 z h;have e:opB b c n=dataN b c n:=kQe;rw[e];exact tLA c b hb n (bHA B) (op_sz z h0) (.inl h)
 ·obtain⟨_,B⟩:=op_k3 z h;have hne:iAA n≠2:=by have:=nGA B;omega
  have e:opB b c n=dataN b c n:=kQe;rw[e];exact tLA c b hb n (bHA (.inr B)) (op_sz z h0) (.inr (.inl ⟨h,hne⟩))
 ·obtain⟨_,B⟩:=op_k4 z h;have hne:iAA n≠2:=by have:=nGA B;omega
  have e:opB b c n=dataN b c n:=kQe;rw[e];exact tLA c b hb n (bHA (.inr B)) (op_sz z h0) (.inr (.inr ⟨h,hne⟩))
 ·have e:opB b c n=fBA b c (lAA n).toList:=by unfold opB;rw[if_neg dQ,if_pos h]
  rw[e,<-eXA c hc b];unfold St.kindP;simp only[h,Int.reduceEq,if_true,if_false,reduceIte]
 ·have e:(lAA n).toList=[74,77,80]:=by unfold lAA;rw[o6 h];rw[ByteArray.toList_eq];rfl
  rw[dGA dQ dQ dQ dQ dQ e];unfold St.kindP;simp only[h,Int.reduceEq,if_true,if_false,reduceIte];rcases gYA z h with B|B<;>rw[B]
  ·exact yCB c hc b hb
  ·exact zCB c hc b hb
 ·have e:(lAA n).toList=[74,83,82]:=by unfold lAA;rw[o7 h];rw[ByteArray.toList_eq];rfl
  rw[dGA dQ dQ dQ dQ dQ e];unfold St.kindP;simp only[h,Int.reduceEq,if_true,if_false,reduceIte];exact gFB c hc b hb _
 ·have e:(lAA n).toList=[82,84,83]:=by unfold lAA;rw[o8 h];rw[ByteArray.toList_eq];rfl
  rw[dGA dQ dQ dQ dQ dQ e];unfold St.kindP;simp only[h,Int.reduceEq,if_true,if_false,reduceIte];exact mFB c hc b hb _
 ·have e:(lAA n).toList=[82,84,73]:=by unfold lAA;rw[o9 h];rw[ByteArray.toList_eq];rfl
  rw[dGA dQ dQ dQ dQ dQ e];unfold St.kindP;simp only[h,Int.reduceEq,if_true,if_false,reduceIte];exact lFB c hc b hb _
 ·have e:(lAA n).toList=[66,82,75]:=by unfold lAA;rw[a1 h];rw[ByteArray.toList_eq];rfl
  rw[dGA dQ dQ dQ dQ dQ e];unfold St.kindP;simp only[h,Int.reduceEq,if_true,if_false,reduceIte];exact fFB c hc b hb _
 ·rcases eYA z h with hi|hi
  ·have e:(lAA n).toList=[80,72,65]:=kQf;rw[dGA dQ dQ dQ dQ dQ e];unfold St.kindP;simp only[h,Int.reduceEq,if_true,if_false,reduceIte,e];exact hFB c hc b hb _
  ·have e:(lAA n).toList=[80,72,80]:=kQf;rw[dGA dQ dQ dQ dQ dQ e];unfold St.kindP;simp only[h,Int.reduceEq,if_true,if_false,reduceIte,e];exact iFB c hc b hb _
 ·rcases fYA z h with hi|hi
  ·have e:(lAA n).toList=[80,76,65]:=kQf;rw[dGA dQ dQ dQ dQ dQ e];unfold St.kindP;simp only[h,Int.reduceEq,if_true,if_false,reduceIte,e];exact jFB c hc b hb _
  ·have e:(lAA n).toList=[80,76,80]:=kQf;rw[dGA dQ dQ dQ dQ dQ e];unfold St.kindP;simp only[h,Int.reduceEq,if_true,if_false,reduceIte,e];exact kFB c hc b hb _
theorem hCB (c:CpuN) (hc:c.ok) (b:BusN) (hb:∀ a,b.get a < 256) (n:Nat) (z:b.get c.PC=n) (h0:eAA n≠0):(⟨c,b⟩:St).stepP n=⟨(opN b c).1,(opN b c).2⟩:=by
 unfold St.stepP;rw[if_neg h0,cGB,z];exact cBB c hc (b.rd c.PC) hb n (by rw[<-z];exact hb _) h0
theorem xAB:uCA:=by
 intro c a cap L w hc _ j hr;cases h:ramN L.length with
 | false=>
  have e:stepN c L=(cpu0,⟨[],[]⟩):=by unfold stepN;rw[h];rfl
  rw[e];exact mRA c hc a cap L h w hr j
 | true=>
  have hp:(⟨L,[]⟩:BusN).get c.PC=peekL L c.PC:=fHA h hc.2.2.2.2;have hb:∀ x,(⟨L,[]⟩:BusN).get x < 256:=fun x=>hr.byte' _
  by_cases k0:eAA (peekL L c.PC)=0
  ·have e:stepN c L=(c,⟨L,[]⟩):=by
    unfold stepN;rw[h,if_pos rfl,if_pos];unfold jamsN;rw[h,Bool.true_and];exact decide_eq_true ((op_k0 (mGA hr c.PC)).1 k0)
   rw[e];exact hJA c hc a cap L h w hr j (t:=⟨c,⟨L,[]⟩⟩) (by unfold St.stepP;rw[if_pos k0])
  ·have e:stepN c L=opN ⟨L,[]⟩ c:=by
    unfold stepN;rw[h,if_pos rfl,if_neg];unfold jamsN;rw[h,Bool.true_and];simp only[decide_eq_true_eq];exact fun hh=>k0 ((op_k0 (mGA hr c.PC)).2 hh)
   rw[e];exact hJA c hc a cap L h w hr j (hCB c hc ⟨L,[]⟩ hb _ hp k0)
theorem wXA:kCA:=by
 intro c a cap L nmi w hc _ j hr;cases h:ramN L.length with
 | false=>
  have e:jBA c L nmi=(cpu0,⟨[],[]⟩):=by unfold jBA;rw[h];rfl
  rw[e];cases nmi
  ·exact fJA c hc a cap L h w hr j
  ·exact aKA c hc a cap L h w hr j
 | true=>
  have e:jBA c L nmi=lFA ⟨L,[]⟩ c nmi:=by unfold jBA;rw[h];rfl
  have es:=bCB c hc ⟨L,[]⟩ nmi;rw[e];cases nmi
  ·exact xIA c hc a cap L h w hr j es
  ·exact gJA c hc a cap L h w hr j es
theorem jamOp (b:Nat) (hb:b < 256) (w:World) :
  Calls Tryz.prog 47 #[.int .u8 b] w fun e w'=>e=.returned (.agg #[.string (lAA b),.int .i64 (iAA b),.int .i64 (sAA b),.int .i64 (eAA b)])/\Below w.heap.size w w':=aLA b hb w
theorem wAB:jCA:=by
 intro a cap T L w a0 _ _ hr;have U:=fun w=>kEA a L.length cap w
 cases h:ramN L.length with
 | false=>
  have e:jamsN L T=false:=by unfold jamsN;rw[h];rfl
  rw[e];rw[h] at U;clear h e;go_enter Tryz.func17,Tryz.ntmps17;go_wp2_with fail;refine (U _).mono ?_;rintro e w1 ⟨rfl,d1⟩;have O:=bstep ((Below.refl _ w).alloc (Nat.le_refl _) _) d1;go_wp2;go_ret;exact⟨rfl,O⟩
 | true=>
  obtain⟨x,hx⟩:∃ x,peekL L T=x:=⟨_,rfl⟩;have R:x < 256:=by rw[<-hx];exact mGA hr T
  have e:jamsN L T=(eAA x==0):=by
   unfold jamsN;rw[h,hx,Bool.true_and];have:=op_k0 R;rw[Bool.eq_iff_iff];simp[this]
  rw[e];rw[h] at U;obtain⟨kd,hk⟩:∃ r_,eAA x=r_:=⟨_,rfl⟩;have K:=fun w=>jamOp x R w
  rw[hk] at K ⊢;have hf:∀ (p q r s:Value) (w:World),(Instr.field 95 (.agg #[p,q,r,s]) 3).run Tryz.prog w=.ok s w:=fun _ _ _ _ _=>gQ
  have HX:=j_ hx;have HR:=j_ hr;clear h e hx hr hk;go_enter Tryz.func17,Tryz.ntmps17;go_wp2_with fail;refine (U _).mono ?_;rintro e w1 ⟨rfl,d1⟩;have q1:=(iIA d1).1;have O:=(iIA d1).2;have c1:w1.cell? ⟨w.heap.size,0,none⟩=some (.slice a L.length cap):=q1.cell 0 _ rfl;clear d1;go_wp2_with fail;refine (bGA a cap T L a0 _ (RowB.below HR.out O)).mono ?_;rintro e w2 ⟨rfl,d2⟩;have b2:=bstep O d2;clear O d2 c1 q1;rw[HX.out];go_wp2_with fail;refine (K _).mono ?_;rintro e w3 ⟨rfl,d3⟩;have b3:=bstep b2 d3;clear b2 d3;go_wp2;go_ret;exact⟨rfl,b3⟩
def bTA (w:World) (a:Option Addr) (len cap:Nat) (zs:List Int):Prop:=
 (a=none/\len=0/\cap=0/\zs=[]) \/
 ∃ x,a=some x/\len<=cap/\cap<=maxLen/\zs.length=cap/\(∀ i,i < zs.length->w.cell? (x.add i)=some (.int .u8 (zs.getD i 0)))/\∀ n ∈ zs,(Lit.int .u8 n).wf=true
theorem xCB {w:World} {a:Option Addr} {len cap:Nat} {zs:List Int} (h:bTA w a len cap zs) (W:len<=1048576):eDA w.heap.size w a len zs:=by
 rcases h with ⟨rfl,rfl,rfl,rfl⟩|⟨x,rfl,h1,h2,h3,h4,h5⟩
 ·exact⟨dQ,fun h=>dQ⟩
 ·refine⟨W,fun h0=>?_⟩;obtain⟨b,J,spot⟩:=x;have hc:=h4 0 dQ;have H:spot=none:=by simpa [Addr.add] using World.cell?_spot hc
  subst H;have E:∀ i,(⟨b,J,none⟩:Addr).add i=⟨b,J+i,none⟩:=fun i=>by unfold Addr.add;split<;>simp_all
  refine⟨b,J,rfl,World.block_lt_of_cell? w _ (by rw[E] at hc;exact hc),fun i hi=>?_⟩;have hci:=h4 i dQ;rw[E] at hci;have Q:zs[i]?.getD 0 ∈ zs:=by
   rw[List.getElem?_eq_getElem dQ];exact List.getElem_mem _
  have hb:=bounds_u8 (h5 _ Q);exact⟨by simpa [List.getD] using hci,hb.1,hb.2⟩

end Go.Proofs.YtckfdbjjjgfbfaaGreat
