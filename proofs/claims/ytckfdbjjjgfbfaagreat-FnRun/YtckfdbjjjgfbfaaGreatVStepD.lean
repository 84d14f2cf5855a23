import Derived.Laws.AppendOwnNone
import Derived.StillTailTactics
import Derived.Deep.AppendLies
import Derived.Test.YtckfdbjjjgfbfaaGreatVStepC
set_option linter.unusedVariables false
set_option linter.unusedSimpArgs false
set_option maxRecDepth 100000
set_option maxHeartbeats 4000000
namespace Go.Proofs.YtckfdbjjjgfbfaaGreat
open Go.RowKit
abbrev ramV (v:Value):Value:=.agg #[v]
def ramN (n:Nat):Bool:=decide (n=256\/n=512\/n=1024\/n=2048\/n=4096)
theorem mIA {n:Nat} (h:ramN n=true):n=256\/n=512\/n=1024\/n=2048\/n=4096:=of_decide_eq_true h
theorem dBA {n:Nat} (h:ramN n=true):256<=n/\n<=4096:=by have:=mIA h;omega
theorem hEB {n:Nat} (h:ramN n=false):((n:Int)==256)=false/\((n:Int)==512)=false/\((n:Int)==1024)=false/\((n:Int)==2048)=false/\((n:Int)==4096)=false:=by
 have:=of_decide_eq_false h;simp only[beq_eq_false_iff_ne];omega
theorem zLA (w:World) (L:List Nat) (hL:L.length<=maxLen) (hb:∀ i,i < L.length->L.getD i 0 < 256):OwnB (w.alloc (.cells (L.map u8V).toArray 5)) w.heap.size (.slice (some ⟨w.heap.size,0,none⟩) L.length L.length) L:=
 ⟨hb,yQ,.inr ⟨w.heap.size,L.length,(L.map u8V).toArray,rfl,Nat.le_refl _,heap_alloc_new w _,Nat.le_refl _,hL,yQ,by simp[List.take_of_length_le]⟩⟩
theorem nIA {n:Nat} (h:ramN n=true):((n:Int)==256)=true\/(((n:Int)==256)=false/\((n:Int)==512)=true)\/(((n:Int)==256)=false/\((n:Int)==512)=false/\((n:Int)==1024)=true) \/
  (((n:Int)==256)=false/\((n:Int)==512)=false/\((n:Int)==1024)=false/\((n:Int)==2048)=true)\/(((n:Int)==256)=false/\((n:Int)==512)=false/\((n:Int)==1024)=false/\((n:Int)==2048)=false/\((n:Int)==4096)=true):=by
 have:=mIA h;simp only[beq_iff_eq,beq_eq_false_iff_ne];omega
theorem pBA (a:Option Addr) (n c:Nat) (w:World) :
  Calls Tryz.prog 10 #[ramV (.slice a n c)] w fun e w'=>e=.returned (.bool (ramN n))/\Below w.heap.size w w':=by
 cases h:ramN n with
 | false=>
  obtain⟨t1,t2,t3,t4,t5⟩:=hEB h;clear h;go_enter Tryz.func10,Tryz.ntmps10;go_wp2;go_ret;exact⟨rfl,(Below.refl _ _).alloc (Nat.le_refl _) _⟩
 | true=>
  rcases nIA h with t1|⟨t1,t2⟩|⟨t1,t2,t3⟩|⟨t1,t2,t3,t4⟩|⟨t1,t2,t3,t4,t5⟩
  all_goals
   clear h;go_enter Tryz.func10,Tryz.ntmps10;go_wp2;go_ret;exact⟨rfl,(Below.refl _ _).alloc (Nat.le_refl _) _⟩
def ramI (n:Int):Bool:=decide (0<=n) && ramN n.toNat
def newL (n:Int):List Nat:=if ramI n=true then List.replicate n.toNat 0 else []
theorem cSA (n:Int) (w:World) :
  Calls Tryz.prog 94 #[.int .i64 n] w fun e w'=>∃ v,e=.returned (ramV v)/\OwnB w' w.heap.size v (newL n)/\Below w.heap.size w w':=by
 cases h:ramI n with
 | false=>
  have hL:newL n=[]:=by unfold newL;rw[h];rfl
  rw[hL];have ht:(n==256)=false/\(n==512)=false/\(n==1024)=false/\(n==2048)=false/\(n==4096)=false:=by
   unfold ramI at h;rw[Bool.and_eq_false_iff] at h;simp only[beq_eq_false_iff_ne];rcases h with h|h
   ·have:=of_decide_eq_false h;omega
   ·have:=of_decide_eq_false h;omega
  obtain⟨t1,t2,t3,t4,t5⟩:=ht;clear h hL;go_enter Tryz.func94,Tryz.ntmps94;go_wp2;exact bodyPost_ret (v:=ramV (.slice none 0 0)) (by simp[results,Tryz.results94,go_sem]) rfl ⟨_,rfl,vDA _ _,(Below.refl _ _).alloc (Nat.le_refl _) _⟩
 | true=>
  unfold ramI at h;rw[Bool.and_eq_true] at h;obtain⟨d,rfl⟩:=Int.eq_ofNat_of_zero_le (of_decide_eq_true h.1);have hr:ramN d=true:=by simpa using h.2
  have hL:newL d=List.replicate d 0:=by unfold newL ramI;rw[if_pos (by simp[hr])];simp
  have l4:=fun w=>makeB d (by have:=dBA hr;omega) w
  have hb:=dBA hr;rw[hL];clear h hL;rcases nIA hr with t1|⟨t1,t2⟩|⟨t1,t2,t3⟩|⟨t1,t2,t3,t4⟩|⟨t1,t2,t3,t4,t5⟩
  all_goals
   clear hr;go_enter Tryz.func94,Tryz.ntmps94;go_wp2;refine bodyPost_ret (v:=ramV (.slice (some ⟨w.heap.size+1,0,none⟩) d d)) (by simp[results,Tryz.results94,go_sem]) rfl ⟨_,rfl,?_,?_⟩
   ·have:=zLA (w.alloc (Obj.cells #[Value.slice (some ⟨w.heap.size+1,0,none⟩) d d] 30)) (List.replicate d 0) xQg (fun i hi=>mQg);simp only[World.size_alloc,List.length_replicate,List.map_replicate,u8V] at this;exact OwnB.base this dQ
   ·exact ((Below.refl _ _).alloc (Nat.le_refl _) _).alloc yQ _
theorem jUA {w w':World} {row:Option Nat} (h:Below w.heap.size w w'):w.grownBy w' row:=⟨h.os,h.tape,h.output,h.size,fun i hi _=>h.block i hi⟩
def peekL (L:List Nat) (addr:Nat):Nat:=if ramN L.length=true then L.getD (addr % L.length) 0 else 0
theorem xGA (addr n:Nat) (E:0 < n):(addr:Int).tmod (n:Int)=((addr % n:Nat):Int):=by
 rw[Int.tmod_eq_emod_of_nonneg dQ];omega
theorem uPA (a:Option Addr) (c addr:Nat) (L:List Nat) (ha:addr < 65536) (w:World) (hr:RowB w a L) :
  Calls Tryz.prog 79 #[ramV (.slice a L.length c),.int .u16 addr] w fun e w'=>e=.returned (.int .u8 (peekL L addr))/\Below w.heap.size w w':=by
 have HO:=fun w=>pBA a L.length c w
 cases h:ramN L.length with
 | false=>
  have e:peekL L addr=0:=by unfold peekL;rw[h];rfl
  rw[e];rw[h] at HO;clear h e;go_enter Tryz.func79,Tryz.ntmps79;go_wp2_with fail;refine (HO _).mono ?_;rintro e J ⟨rfl,b1⟩;have O:=bstep ((Below.refl _ _).alloc (Nat.le_refl _) _) b1;go_wp2;go_ret;exact⟨rfl,O⟩
 | true=>
  have hb:=dBA h;obtain⟨g,o,rfl,hg,hc⟩:=hr.2 dQ;obtain⟨k,hk⟩:∃ k,addr % L.length=k:=⟨_,rfl⟩;have d3:k < L.length:=oQe;have e:peekL L addr=L.getD k 0:=by unfold peekL;rw[if_pos h,hk]
  rw[e];have R:=hc k d3;obtain⟨x,hx⟩:∃ x,L.getD k 0=x:=⟨_,rfl⟩;rw[hx] at R ⊢;have i5:x < 256:=by rw[<-hx];exact hr.1 k d3
  rw[h] at HO;have HK:=j_ (show (addr:Int).tmod (L.length:Int)=(k:Int) by rw[xGA _ _ dQ,hk]);have a9:=(((Below.refl _ _).alloc (Nat.le_refl _) (.cells #[.slice (some ⟨g,o,none⟩) L.length c] 30)).cell (p:=⟨g,o+k,none⟩) hg).trans R;unfold u8V at a9;have b0:((L.length:Int)==0)=false:=beq_eq_false_iff_ne.2 dQ;have ik:(0:Int)<=(k:Int)/\(k:Int) < (L.length:Int):=dQ;clear h e hc hx hr hk R;go_enter Tryz.func79,Tryz.ntmps79;go_wp2_with fail;refine (HO _).mono ?_;rintro e J ⟨rfl,b1⟩;have hs1:w.heap.size < J.heap.size:=Nat.lt_of_lt_of_le yQ b1.size;have l1:J.cell? ⟨w.heap.size,0,none⟩=some (.slice (some ⟨g,o,none⟩) L.length c):=(b1.cell (p:=⟨w.heap.size,0,none⟩) yQ).trans yQ;have a5:=(b1.cell (p:=⟨g,o+k,none⟩) qQ).trans a9;have O:=bstep ((Below.refl _ _).alloc (Nat.le_refl _) _) b1;have j1:IntKind.i64.wrap (addr:Int)=(addr:Int):=IntWalk.i64_in _ dQ;have l8:(addr:Int).tmod (L.length:Int)=(k:Int):=HK.out;have j2:IntKind.i64.wrap (k:Int)=(k:Int):=IntWalk.i64_in _ dQ;clear b1 a9;go_wp2_with fail;go_quiet (fail);go_wp2;go_ret;exact⟨rfl,below_drewN O _⟩
theorem boxAt {w J:World} {B:Nat} {t:TypeId} {v:Value} (h:Boxed w B t v) (hb:Below w.heap.size w J):Boxed J B t v:=(hb.block B h.lt).trans h
theorem bFA {w:World} {g o:Nat} {L:List Nat} (h:RowB w (some ⟨g,o,none⟩) L):∀ j u,(L.map u8V)[j]?=some u->w.cell? ((⟨g,o,none⟩:Addr).add j)=some u:=by
 intro j u hu;have hj:j < L.length:=by
  rcases Nat.lt_or_ge j L.length with q|q
  ·exact q
  ·rw[List.getElem?_eq_none (by simpa using q)] at hu;cases hu
 obtain⟨g',o',e,_,hc⟩:=h.2 dQ;simp only[Option.some.injEq,Addr.mk.injEq,and_true] at e;obtain⟨rfl,rfl⟩:=e;have e3:(⟨g,o,none⟩:Addr).add j=⟨g,o+j,none⟩:=by unfold Addr.add;split<;>simp_all
 rw[e3,hc j hj];rw[List.getElem?_map,List.getElem?_eq_getElem hj] at hu;simp only[Option.map_some,Option.some.injEq] at hu;rw[<-hu];simp[List.getD,hj]
theorem tGA (w:World) (B:Nat) (v:Value):w.grownBy (w.setCell ⟨B,0,none⟩ v) (some B):=grownBy_setCell' w B v
theorem oKA {w:World} {base g n cap:Nat} {L:List Nat} {k x:Nat} (h:OwnB w base (.slice (some ⟨g,0,none⟩) n cap) L) (E:n=L.length) (hx:x < 256) :
  OwnB (w.setCell ⟨g,k,none⟩ (.int .u8 (x:Int))) base (.slice (some ⟨g,0,none⟩) n cap) (L.set k x)/\w.grownBy (w.setCell ⟨g,k,none⟩ (.int .u8 (x:Int))) (some g):=by
 subst E;have hst:=World.ownsRow.stored h.2 k (u8V x);refine⟨⟨fun i hi=>?_,?_⟩,hst.2⟩
 ·rw[List.length_set] at hi;by_cases i2:i=k
  ·subst i2;simp only[List.getD,List.getElem?_set_self hi,Option.getD_some];exact hx
  ·simp only[List.getD,List.getElem?_set_ne (Ne.symm i2)];exact h.1 i hi
 ·rw[List.length_set,List.map_set];exact hst.1
theorem wFA {w:World} {base g n cap:Nat} {L:List Nat} {k:Nat} (h:OwnB w base (.slice (some ⟨g,0,none⟩) n cap) L) (hk:k < L.length):w.cell? ⟨g,k,none⟩=some (.int .u8 (L.getD k 0:Int))/\w.frozen? ⟨g,k,none⟩=false:=by
 obtain⟨_,hr⟩:=h.row;obtain⟨g',o',i1,_,hc⟩:=hr.2 dQ;simp only[Option.some.injEq,Addr.mk.injEq,and_true] at i1;obtain⟨rfl,rfl⟩:=i1;have a8:=hc k hk;rw[Nat.zero_add] at a8;obtain⟨rfl,_⟩:=h.row;exact⟨a8,World.ownsRow.frozenAt h.2 k⟩
def cCA (n addr:Nat):List Nat->Nat->List Nat->List Nat
 | [],_,M=>M
 | x :: r,i,M=>cCA n addr r (i+1) (M.set ((addr+i) % 65536 % n) x)
def fillL (L:List Nat) (addr:Nat) (X:List Nat):List Nat:=if ramN L.length=true/\X.length<=1024 then cCA L.length addr X 0 L else []
theorem hIA (n addr:Nat):∀ (X:List Nat) (i:Nat) (M:List Nat),(cCA n addr X i M).length=M.length
 | [],_,_=>rfl
 | x :: r,i,M=>by rw[cCA,hIA n addr r,List.length_set]
theorem qZA (X:List Nat) (j:Nat) (h:j < X.length):X.drop j=X.getD j 0 :: X.drop (j+1):=by
 rw[List.drop_eq_getElem_cons h];simp[List.getD,h]
theorem nQA (n addr:Nat) (X:List Nat) (j:Nat) (M:List Nat) (h:j < X.length):cCA n addr (X.drop j) j M=cCA n addr (X.drop (j+1)) (j+1) (M.set ((addr+j) % 65536 % n) (X.getD j 0)):=by
 rw[qZA X j h,cCA]
theorem uAB (addr j n:Nat) (E:0 < n):(((addr:Int)+(j:Int)).tmod 65536).tmod (n:Int)=(((addr+j) % 65536 % n:Nat):Int):=by
 rw[show (addr:Int)+(j:Int)=((addr+j:Nat):Int) by omega,show (65536:Int)=((65536:Nat):Int) from rfl,xGA (addr+j) 65536 dQ,xGA _ n E]
theorem zRA (a:Option Addr) (c addr:Nat) (L:List Nat) (ax:Option Addr) (nx cx:Nat) (w:World) (h:ramN L.length=false\/1024 < nx) (hx:nx<=maxLen) :
  Calls Tryz.prog 69 #[ramV (.slice a L.length c),.int .u16 addr,.slice ax nx cx] w fun e w'=>e=.returned (ramV (.slice none 0 0))/\Below w.heap.size w w':=by
 have HO:=fun w=>pBA a L.length c w
 have b5:(nx:Int)<=9223372036854775807:=by unfold maxLen at hx;omega
 cases h1:ramN L.length with
 | false=>
  rw[h1] at HO;clear h h1;go_enter Tryz.func69,Tryz.ntmps69;go_wp2_with fail;refine (HO _).mono ?_;rintro e J ⟨rfl,b1⟩;have T:=boxAt (Boxed.new (w.alloc (.cells #[.slice a L.length c] 30)) 30 (.slice none 0 0)) b1;rw[World.size_alloc] at T;have O:=bstep (((Below.refl _ _).alloc (Nat.le_refl _) _).alloc yQ _) b1;have a5:=T.cell;have e8:=T.frozen;have hcx2:=(T.set (.slice none 0 0)).cell;go_wp2;exact bodyPost_ret (v:=ramV (.slice none 0 0)) rQh rfl ⟨rfl,O.setCell yQ _⟩
 | true=>
  have k7:(1024:Int) < (nx:Int):=by rcases h with h|h;rw[h1] at h;cases h;omega
  rw[h1] at HO;clear h h1;go_enter Tryz.func69,Tryz.ntmps69;go_wp2_with fail;refine (HO _).mono ?_;rintro e J ⟨rfl,b1⟩;have T:=boxAt (Boxed.new (w.alloc (.cells #[.slice a L.length c] 30)) 30 (.slice none 0 0)) b1;rw[World.size_alloc] at T;have O:=bstep (((Below.refl _ _).alloc (Nat.le_refl _) _).alloc yQ _) b1;have a5:=T.cell;have e8:=T.frozen;have hcx2:=(T.set (.slice none 0 0)).cell;go_wp2;exact bodyPost_ret (v:=ramV (.slice none 0 0)) rQh rfl ⟨rfl,O.setCell yQ _⟩
theorem rPA (a:Option Addr) (c addr:Nat) (L:List Nat) (ax:Option Addr) (cx:Nat) (X:List Nat) (ha:addr < 65536) (w:World) (hr:RowB w a L) (hx:RowB w ax X) (h:ramN L.length=true) (hX:X.length<=1024) :
  Calls Tryz.prog 69 #[ramV (.slice a L.length c),.int .u16 addr,.slice ax X.length cx] w fun e w'=>∃ v,e=.returned (ramV v)/\OwnB w' w.heap.size v (cCA L.length addr X 0 L)/\Below w.heap.size w w':=by
 have HO:=fun w=>pBA a L.length c w
 rw[h] at HO;have E:=dBA h;have b0:((L.length:Int)==0)=false:=beq_eq_false_iff_ne.2 dQ;have l7:¬ (1024:Int) < (X.length:Int):=dQ;obtain⟨g,o,rfl,hg,_⟩:=hr.2 dQ;obtain⟨i0,hi,hz0,hz1,b6⟩:=info_parts yEA;have HR:=j_ hr;have HX:=j_ hx;clear h hr hx;go_enter Tryz.func69,Tryz.ntmps69;go_wp2_with fail;refine (HO _).mono ?_;rintro e J ⟨rfl,b1⟩;have T:=boxAt (Boxed.new (w.alloc (.cells #[.slice (some ⟨g,o,none⟩) L.length c] 30)) 30 (.slice none 0 0)) b1;have bp:=boxAt ((Boxed.new w 30 (.slice (some ⟨g,o,none⟩) L.length c)).alloc (.cells #[.slice none 0 0] 30)) b1;rw[World.size_alloc] at T;have O:=bstep (((Below.refl _ _).alloc (Nat.le_refl _) _).alloc yQ _) b1;have hs1:=O.size;have l0:=T.lt;clear b1;have j7:=(bp.alloc (.cells #[] 5)).cell;have HN:=j_ (RowB.below (RowB.below HR.out O) ((Below.refl _ J).alloc (Nat.le_refl _) (.cells #[] 5)));have e0:=qFA (base:=J.heap.size) J rfl (Nat.le_refl _);go_wp2_with (at_builtin;refine wpList_append_own _ rfl _ _ 22 rfl J.heap.size 5 i0 (.int .u8 0) 1 1 Tryz.underlying22 hi hz0 hz1 b6 rfl iQ _ _ _ rfl e0 ⟨g,o,none⟩ L.length c (L.map u8V) rfl yQ (bFA HN.out) (iFA L) ?c3 ?c4 ?c5 ?_)
 case c3=>unfold maxLen;first|omega|(simp;omega)
 case c4=>first|omega|(simp;omega)
 case c5=>first|omega|(simp;done)|(simp;omega)
 intro v' K hown' hgrow _;have b8:OwnB K J.heap.size v' L:=⟨HR.out.1,sQh⟩;obtain⟨g4,c4,rfl,_⟩:=b8.cells dQ;have l2:=((World.ownsRow.lt b8.2) g4 rfl).1;have d7:Boxed K (w.heap.size+1) 30 (.slice none 0 0):=(T.alloc _).kept hgrow rQe;have b4:Below w.heap.size w K:=(O.alloc dQ _).grown hgrow qQ (fun j ej=>xQd);have k8:=j_ (RowB.below HX.out b4);have H4:=j_ (And.intro b8 (And.intro d7 b4));clear hown' hgrow b8 d7 T bp j7 e0 O b4;go_wp2;go_loopw [8] (fun i wr=>∃ (j:Nat) (M:List Nat),j<=X.length/\i=.int .i64 j/\Hid (M.length=L.length/\OwnB wr J.heap.size (.slice (some ⟨g4,0,none⟩) L.length c4) M/\Boxed wr (w.heap.size+1) 30 (.slice none 0 0)/\Below w.heap.size w wr/\cCA L.length addr (X.drop j) j M=cCA L.length addr X 0 L)) (fun i _=>X.length - (intOf i).toNat)
 case atStart=>exact⟨0,L,Nat.zero_le _,rfl,j_ ⟨rfl,H4.out.1,H4.out.2.1,H4.out.2.2,rfl⟩⟩
 case round=>
  obtain⟨j,M,hj,rfl,HI⟩:=hrel;by_cases hp:j < X.length
  ·obtain⟨k,hk⟩:∃ k,(addr+j) % 65536 % L.length=k:=⟨_,rfl⟩;have d3:k < L.length:=oQe;have HK:=j_ hk;have hT:=uAB addr j L.length dQ;rw[hk] at hT;clear hk;obtain⟨hM,a0,U,bM,hF⟩:=HI.out;obtain⟨R,e6⟩:=wFA a0 (k:=k) dQ;obtain⟨gx,ox,rfl,hgx,a5⟩:=HX.out.2 dQ;have d0:=(bM.cell (p:=⟨gx,ox+j,none⟩) hgx).trans (a5 j hp);obtain⟨x,b5⟩:∃ x,X.getD j 0=x:=⟨_,rfl⟩;obtain⟨y,hy⟩:∃ y,M.getD k 0=y:=⟨_,rfl⟩;rw[b5] at d0;rw[hy] at R;have i5:x < 256:=by rw[<-b5];exact HX.out.1 j hp
   unfold u8V at d0;have j5:=j_ b5;have a1:IntKind.i64.wrap (addr:Int)=(addr:Int):=IntWalk.i64_in _ dQ;have a2:IntKind.i64.wrap ((addr:Int)+(j:Int))=(addr:Int)+(j:Int):=IntWalk.i64_in _ dQ;have ij:(0:Int)<=(j:Int)/\(j:Int) < (X.length:Int):=dQ;have ik:(0:Int)<=(k:Int)/\(k:Int) < (L.length:Int):=dQ;have e2:((addr:Int)+(j:Int)).tmod 65536=(((addr+j) % 65536:Nat):Int):=by
    rw[show (addr:Int)+(j:Int)=((addr+j:Nat):Int) by omega,show (65536:Int)=((65536:Nat):Int) from rfl,xGA _ _ dQ]
   obtain⟨q,hq⟩:∃ q,(addr+j) % 65536=q:=⟨_,rfl⟩;have l6:q < 65536:=dQ;rw[hq] at e2;rw[e2] at hT;have HF:=j_ hF;have b7:=j_ a0;clear b5 hy a5 hF a0 hq;have l5:¬ (L.length:Int)=0:=dQ;have j8:¬ L.length=0:=dQ;have a3:IntKind.i64.wrap (k:Int)=(k:Int):=IntWalk.i64_in _ dQ;have a4:IntKind.i64.wrap (q:Int)=(q:Int):=IntWalk.i64_in _ dQ;go_wp2_with fail;go_still_tail 14,gQ;change wpList _ _ _ _ _ wr.drew;have e4:wr.drew.cell? ⟨g4,k,none⟩=some (.int .u8 (y:Int)):=R;have e7:wr.drew.frozen? ⟨g4,k,none⟩=false:=e6;have a6:Hid (OwnB wr.drew J.heap.size (.slice (some ⟨g4,0,none⟩) L.length c4) M):=j_ b7.out;have b9:Boxed wr.drew (w.heap.size+1) 30 (.slice none 0 0):=U;have d6:=bM.drew;clear R e6 b7 U bM d0 HI;generalize wr.drew=w5 at e4 e7 a6 b9 d6 ⊢;obtain⟨e1,e9⟩:=oKA (k:=k) a6.out hM.symm i5;have j4:=j_ e1;have j3:=j_ e9;clear e1 e9 a6;go_wp2;go_roundw
   case rel=>
    refine⟨j+1,M.set k x,dQ,bQh,j_ ⟨by rw[List.length_set];exact hM,j4.out,b9.kept j3.out qQ,d6.setCell (by show w.heap.size<=g4;omega) _,?_⟩⟩;rw[<-HF.out,nQA _ _ _ _ _ hp,HK.out,j5.out]
   case measure=>simp[intOf];omega
  ·obtain rfl:j=X.length:=dQ;obtain⟨hM,a0,U,bM,hF⟩:=HI.out;have a5:=U.cell;have e8:=U.frozen;have hcx2:=(U.set (.slice (some ⟨g4,0,none⟩) L.length c4)).cell;have b7:=j_ a0;have HF:=j_ hF;clear a0 hF;go_wp2;refine bodyPost_ret (v:=ramV (.slice (some ⟨g4,0,none⟩) L.length c4)) rQh rfl ⟨_,rfl,gFA (OwnB.base (b':=w.heap.size) ?_ dQ) (tGA _ _ _) (fun q hq=>by simp[Value.ownBlock] at hq;omega),bM.setCell yQ _⟩;have:=HF.out;rw[List.drop_length,cCA] at this;rw[<-this];exact b7.out
theorem dFA (a:Option Addr) (c addr:Nat) (L:List Nat) (ax:Option Addr) (cx:Nat) (X:List Nat) (ha:addr < 65536) (w:World) (hr:RowB w a L) (hx:RowB w ax X) (hX:X.length<=maxLen) :
  Calls Tryz.prog 69 #[ramV (.slice a L.length c),.int .u16 addr,.slice ax X.length cx] w fun e w'=>∃ v,e=.returned (ramV v)/\OwnB w' w.heap.size v (fillL L addr X)/\Below w.heap.size w w':=by
 by_cases h:ramN L.length=true/\X.length<=1024
 ·have e:fillL L addr X=cCA L.length addr X 0 L:=if_pos h;rw[e];exact rPA a c addr L ax cx X ha w hr hx h.1 h.2
 ·have e:fillL L addr X=[]:=if_neg h;rw[e];refine (zRA a c addr L ax X.length cx w (by
   cases E:ramN L.length with
   | false=>exact .inl rfl
   | true=>exact .inr (by rw[E] at h;simp at h;exact h)) hX).mono ?_
  rintro e w' ⟨rfl,hb⟩;exact⟨_,rfl,vDA _ _,hb⟩
structure Turn (F:Nat->Prop) (w w':World):Prop where
 os:w'.os=w.os
 tape:w'.tape=w.tape
 output:w'.output=w.output
 size:w.heap.size<=w'.heap.size
 block:∀ i,i < w.heap.size->¬ F i->w'.heap[i]?=w.heap[i]?
theorem Turn.refl (F:Nat->Prop) (w:World):Turn F w w:=⟨rfl,rfl,rfl,Nat.le_refl _,fun _ _ _=>rfl⟩
theorem Turn.trans {F:Nat->Prop} {a b c:World} (h:Turn F a b) (k:Turn F b c):Turn F a c:=
 ⟨k.os.trans h.os,k.tape.trans h.tape,k.output.trans h.output,Nat.le_trans h.size k.size,fun i hi E=>(k.block i (Nat.lt_of_lt_of_le hi h.size) E).trans (h.block i hi E)⟩
theorem Turn.mono {F G:Nat->Prop} {a b:World} (h:Turn F a b) (hs:∀ i,i < a.heap.size->F i->G i):Turn G a b:=
 ⟨h.os,h.tape,h.output,h.size,fun i hi E=>h.block i hi (fun hf=>E (hs i hi hf))⟩
theorem Turn.of_below {F:Nat->Prop} {a b:World} (h:Below a.heap.size a b):Turn F a b:=⟨h.os,h.tape,h.output,h.size,fun i hi _=>h.block i hi⟩
theorem Turn.of_grown {F:Nat->Prop} {a b:World} {r:Option Nat} (h:a.grownBy b r) (hg:∀ g,r=some g->F g):Turn F a b:=
 ⟨h.os,h.tape,h.output,h.size,fun i hi E=>h.block i hi (fun e=>E (hg i e.symm))⟩
theorem Turn.set {F:Nat->Prop} (w:World) (B k:Nat) (v:Value) (hF:F B):Turn F w (w.setCell ⟨B,k,none⟩ v):=
 ⟨rfl,rfl,rfl,yQ,fun i _ E=>Below.heap_setCell _ _ _ _ (by show i≠B;intro e;subst e;exact E hF)⟩
theorem Turn.below {F:Nat->Prop} {a b:World} {n:Nat} (h:Turn F a b) (h1:∀ i,i < n->¬ F i) (h2:n<=a.heap.size):Below n a b:=
 ⟨h.os,h.tape,h.output,h.size,fun i hi=>h.block i dQ (h1 i hi)⟩
theorem BoxN.turn {F:Nat->Prop} {w J:World} {B:Nat} {t:TypeId} {cs:Array Value} (h:BoxN w B t cs) (ht:Turn F w J) (hd:¬ F B):BoxN J B t cs:=(ht.block B h.lt hd).trans h
def OwnC (w:World) (base:Nat) (v:Value) (L:List CycN):Prop:=w.ownsRow base 91 3 v L.length (L.flatMap gBA)
def BusAt (w:World) (F:Nat->Prop) (B:Nat) (b:BusN):Prop:=
 ∃ g cap v,BoxN w B 121 #[.slice (some ⟨g,0,none⟩) b.mem.length cap,v]/\OwnB w 0 (.slice (some ⟨g,0,none⟩) b.mem.length cap) b.mem/\OwnC w 0 v b.log /\
  F B/\F g/\g≠B/\∀ k,v.ownBlock=some k->F k/\k≠B/\k≠g
def BusN.fit (b:BusN) (k:Nat):Prop:=ramN b.mem.length=true/\b.log.length<=k
theorem BusN.fit.rd {b:BusN} {k a:Nat} (h:b.fit k):(b.rd a).fit (k+1):=⟨h.1,by simp[BusN.rd];exact h.2⟩
theorem BusN.fit.put {b:BusN} {k a d:Nat} (h:b.fit k):(b.put a d).fit (k+1):=⟨by simp[BusN.put];exact h.1,by simp[BusN.put];exact h.2⟩
theorem BusN.fit.mono {b:BusN} {k l:Nat} (h:b.fit k) (hl:k<=l):b.fit l:=⟨h.1,Nat.le_trans h.2 hl⟩
theorem BusN.fit.spot {b:BusN} {k:Nat} (h:b.fit k) (a:Nat):b.spot a < b.mem.length:=Nat.mod_lt _ (by have:=dBA h.1;omega)
theorem BusAt.byte {w:World} {F:Nat->Prop} {B:Nat} {b:BusN} (h:BusAt w F B b) (a:Nat):b.get a < 256:=by
 obtain⟨g,cap,v,_,ho,_⟩:=h;exact ho.row.2.byte' _
theorem BusAt.less {w:World} {F G:Nat->Prop} {B:Nat} {b:BusN} (h:BusAt w F B b) (hs:∀ i,i < w.heap.size->F i->G i):BusAt w G B b:=by
 obtain⟨g,cap,v,hb,ho,hc,fB,fg,hne,Q⟩:=h;exact⟨g,cap,v,hb,ho,hc,hs _ hb.lt fB,hs _ ((World.ownsRow.lt ho.2) g rfl).2 fg,hne,fun k ek=>⟨hs _ ((World.ownsRow.lt hc) k ek).2 (Q k ek).1,(Q k ek).2⟩⟩
theorem uDA {w w':World} {base:Nat} {v:Value} {L:List CycN} (h:OwnC w base v L) (hb:Below w.heap.size w w'):OwnC w' base v L:=by
 refine World.ownsRow.kept h (row:=none) ⟨hb.os,hb.tape,hb.output,hb.size,fun i hi _=>hb.block i hi⟩ ?_;cases v.ownBlock<;>simp
theorem BusAt.below {w w':World} {F:Nat->Prop} {B:Nat} {b:BusN} (h:BusAt w F B b) (hb:Below w.heap.size w w'):BusAt w' F B b:=by
 obtain⟨g,cap,v,hx,ho,hc,i9⟩:=h;exact⟨g,cap,v,hx.below hb,ho.below hb,uDA hc hb,i9⟩
theorem yGA:(Tryz.prog.info? 91).map (fun i=>(i.zero,i.size,i.bytes))=some (some (.agg #[.int .u16 0,.int .u8 0,.bool false]),3,4):=gQ
theorem eFA (w:World) (x y z:Value) (t:TypeId):∀ j u,[x,y,z][j]?=some u->(w.alloc (.cells #[x,y,z] t)).cell? ((⟨w.heap.size,0,none⟩:Addr).add j)=some u:=by
 intro j u hj
 match j,hj with
 | 0,hj=>simp at hj;subst hj;simp[Addr.add]
 | 1,hj=>simp at hj;subst hj;simp[Addr.add]
 | 2,hj=>simp at hj;subst hj;simp[Addr.add]
 | j+3,hj=>simp at hj
theorem zDA (w:World) (B k:Nat) (v:Value):w.grownBy (w.setCell ⟨B,k,none⟩ v) (some B):=
 ⟨rfl,rfl,rfl,yQ,fun i _ E=>Below.heap_setCell _ _ _ _ (by show i≠B;intro e;subst e;exact E rfl)⟩
theorem wNA {w w0 K:World} {F:Nat->Prop} {B g cap:Nat} {v v':Value} {M:List Nat} {L:List CycN} {c:CycN}
  (hb:BoxN w B 121 #[.slice (some ⟨g,0,none⟩) M.length cap,v]) (ho:OwnB w 0 (.slice (some ⟨g,0,none⟩) M.length cap) M) (hc:OwnC w 0 v L)
  (fB:F B) (fg:F g) (hne:g≠B) (Q:∀ k,v.ownBlock=some k->F k/\k≠B/\k≠g) (hF:∀ i,w.heap.size<=i->F i)
  (h0:Below w.heap.size w w0) (hgrow:w0.grownBy K v.ownBlock) (i4:K.ownsRow 0 91 3 v' (L.length+1) (L.flatMap gBA++gBA c)) (i3:∀ k,v'.ownBlock=some k->v.ownBlock=some k\/w0.heap.size<=k) :
  BoxN K B 121 #[.slice (some ⟨g,0,none⟩) M.length cap,v]/\OwnB K 0 (.slice (some ⟨g,0,none⟩) M.length cap) M/\BusAt (K.setCell ⟨B,1,none⟩ v') F B ⟨M,L++[c]⟩/\Turn F w (K.setCell ⟨B,1,none⟩ v'):=by
 have l3:=((World.ownsRow.lt ho.2) g rfl).2;have b4:BoxN K B 121 #[.slice (some ⟨g,0,none⟩) M.length cap,v]:=by
  have j6:=(hb.below h0).lt;exact (hgrow.block B j6 (fun e=>(Q B e.symm).2.1 rfl)).trans (hb.below h0)
 have o4:OwnB K 0 (.slice (some ⟨g,0,none⟩) M.length cap) M:=by
  refine⟨ho.1,World.ownsRow.kept (ho.below h0).2 hgrow ?_⟩;exact .inr (fun e=>(Q g e.symm).2.2 rfl)
 have n4:∀ k,v'.ownBlock=some k->F k/\k≠B/\k≠g:=fun k ek=>by
  rcases i3 k ek with h|h
  ·exact Q k h
  ·have h1:=hb.lt;have h2:=h0.size;exact⟨hF k dQ,dQ,dQ⟩
 have t4:Turn F w K:=(Turn.of_below h0).trans (Turn.of_grown hgrow (fun k ek=>(Q k ek).1));refine⟨b4,o4,⟨g,cap,v',?_,?_,?_,fB,fg,hne,n4⟩,t4.trans (Turn.set _ _ _ _ fB)⟩
 ·exact b4.set 1 v'
 ·exact gFA o4 (zDA K B 1 v') (fun k ek=>by simp[Value.ownBlock] at ek;omega)
 ·have e:(L++[c]).flatMap gBA=L.flatMap gBA++gBA c:=yQ;unfold OwnC;rw[e,show (L++[c]).length=L.length+1 by simp];refine World.ownsRow.kept i4 (zDA K B 1 v') ?_;cases hv:v'.ownBlock with
  | none=>exact .inl rfl
  | some k=>exact .inr (by simpa using (n4 k hv).2.1)
theorem jGB (F:Nat->Prop) (B:Nat) (b:BusN) (a:Nat) (ha:a < 200000) (hf:b.fit 30) (w:World) (hF:∀ i,w.heap.size<=i->F i) (h:BusAt w F B b) :
  Calls Tryz.prog 76 #[.pointer (some ⟨B,0,none⟩),.int .i64 a] w fun e w'=>e=.returned (.int .u8 (b.get a))/\BusAt w' F B (b.rd a)/\Turn F w w':=by
 obtain⟨i0,hi,hz0,hz1,b6⟩:=info_parts yGA;obtain⟨g,cap,v,hb,ho,hc,fB,fg,hne,Q⟩:=h;have hsp:=hf.spot a;obtain⟨n,E⟩:∃ n,b.mem.length=n:=⟨_,rfl⟩;have hA:bits .and .i64 (a:Int) 65535=((a % 65536:Nat):Int):=by
  have:=rEA (a:Int) 16 dQ;simp at this;omega
 have b0:¬ ((n:Int)=0):=by have:=dBA hf.1;omega
 have k3:((n:Int)==0)=false:=by simpa using b0
 have c0:=hb.cell 0 _ rfl;have c1:=hb.cell 1 _ rfl;have f1:=hb.frozen 1;have k1:=(wFA ho hsp).1;have hr:((a % 65536:Nat):Int).tmod (n:Int)=((b.spot a:Nat):Int):=by rw[<-Int.ofNat_tmod,<-E];rfl
 have b3:=hsp;rw[E] at b3 c0;obtain⟨x,hx⟩:∃ x,b.spot a=x:=⟨_,rfl⟩;have hd:b.mem.getD x 0=b.get a:=by rw[<-hx];rfl
 rw[hx] at hr k1 b3;rw[hd] at k1;have d1:b.get a < 256:=by rw[<-hd];exact ho.row.2.byte' _
 obtain⟨d,d2⟩:∃ d,b.get a=d:=⟨_,rfl⟩;rw[d2] at k1 d1 ⊢;obtain⟨y,hy⟩:∃ y,a % 65536=y:=⟨_,rfl⟩;have i6:y < 65536:=dQ;rw[hy] at hA hr;have HN:=j_ E;have HX:=j_ hx;have HD:=j_ d2;have HY:=j_ hy;have j9:n<=4096:=by rw[<-E];exact (dBA hf.1).2
 have k6:IntKind.i64.wrap (n:Int)=(n:Int):=IntWalk.i64_in _ dQ;have j1:IntKind.i64.wrap (y:Int)=(y:Int):=IntWalk.i64_in _ dQ;have j2:IntKind.i64.wrap (x:Int)=(x:Int):=IntWalk.i64_in _ dQ;have ik:(0:Int)<=(x:Int)/\(x:Int) < (n:Int):=dQ;have d8:w.cell? ⟨B,0,none⟩=some (.slice (some ⟨g,0,none⟩) n cap):=c0;have k9:w.cell? ⟨B,1,none⟩=some v:=c1;clear E hx hd d2 hy hsp c0 c1;go_enter Tryz.func76,Tryz.ntmps76;go_wp2_with fail;go_quiet (fail);go_wp2_with (at_builtin;refine wpList_append_lies _ rfl _ _ 34 rfl 0 91 i0 (.agg #[.int .u16 0,.int .u8 0,.bool false]) 3 4 Tryz.underlying34 hi hz0 hz1 b6 rfl iQ _ _ _ rfl (World.ownsRow.alloc (uDA hc (below_drewN (Below.refl _ _) _)) _) ⟨w.heap.size,0,none⟩ 1 1 (gBA ⟨y,d,false⟩) rfl rfl ?c2 ?c6 iQ ?c3 ?c4 ?c5 _ rfl ?_)
 case c2=>
  intro j u hj;have:=eFA (w.drewN nq) _ _ _ 91 j u hj;rw[show (w.drewN nq).heap.size=w.heap.size by simp] at this;exact this
 case c6=>intro u hu;simp[gBA] at hu;rcases hu with rfl|rfl|rfl<;>rfl
 case c3=>unfold maxLen;have:=hf.2;omega
 case c4=>have:=hf.2;omega
 case c5=>exact Nat.zero_le _
 intro g' d9 K hown' hgrow a7 _;have H:=wNA (c:=⟨y,d,false⟩) hb ho hc fB fg hne Q hF ((below_drewN (Below.refl _ _) nq).alloc yQ _) hgrow hown' (fun k ek=>by
  simp only[Value.ownBlock,Option.some.injEq] at ek;subst ek;rcases a7 with h|h
  ·exact .inl h
  ·exact .inr qQ)
 have c4:=H.1.cell 1 v rfl;have f4:=H.1.frozen 1;have HF:=j_ H.2.2;clear H hown' hgrow a7;go_wp2;go_ret;refine⟨rfl,?_⟩;have:=HF.out;unfold BusN.rd;rw[HY.out,HD.out];exact this
theorem cZA (F:Nat->Prop) (B:Nat) (b:BusN) (a d:Nat) (ha:a < 200000) (d1:d < 256) (hf:b.fit 30) (w:World) (hF:∀ i,w.heap.size<=i->F i) (h:BusAt w F B b) :
  Calls Tryz.prog 103 #[.pointer (some ⟨B,0,none⟩),.int .i64 a,.int .u8 d] w fun e w'=>e=.returned (.tuple #[])/\BusAt w' F B (b.put a d)/\Turn F w w':=by
 obtain⟨i0,hi,hz0,hz1,b6⟩:=info_parts yGA;obtain⟨g,cap,v,hb,ho,hc,fB,fg,hne,Q⟩:=h;have hsp:=hf.spot a;obtain⟨n,E⟩:∃ n,b.mem.length=n:=⟨_,rfl⟩;have hA:bits .and .i64 (a:Int) 65535=((a % 65536:Nat):Int):=by
  have:=rEA (a:Int) 16 dQ;simp at this;omega
 have b0:¬ ((n:Int)=0):=by have:=dBA hf.1;omega
 have k3:((n:Int)==0)=false:=by simpa using b0
 have c0:=hb.cell 0 _ rfl;have k1:=(wFA ho hsp).1;have k2:=(wFA ho hsp).2;have hr:((a % 65536:Nat):Int).tmod (n:Int)=((b.spot a:Nat):Int):=by rw[<-Int.ofNat_tmod,<-E];rfl
 have b3:=hsp;rw[E] at b3 c0;obtain⟨x,hx⟩:∃ x,b.spot a=x:=⟨_,rfl⟩;rw[hx] at hr k1 k2 b3;obtain⟨y,hy⟩:∃ y,a % 65536=y:=⟨_,rfl⟩;have i6:y < 65536:=dQ;rw[hy] at hA hr;have j9:n<=4096:=by rw[<-E];exact (dBA hf.1).2
 have k6:IntKind.i64.wrap (n:Int)=(n:Int):=IntWalk.i64_in _ dQ;have j1:IntKind.i64.wrap (y:Int)=(y:Int):=IntWalk.i64_in _ dQ;have j2:IntKind.i64.wrap (x:Int)=(x:Int):=IntWalk.i64_in _ dQ;have ik:(0:Int)<=(x:Int)/\(x:Int) < (n:Int):=dQ;have d8:w.cell? ⟨B,0,none⟩=some (.slice (some ⟨g,0,none⟩) n cap):=c0;have j8:¬ n=0:=dQ;have HN:=j_ E;have HX:=j_ hx;have HY:=j_ hy;clear E hx hy hsp c0;go_enter Tryz.func103,Tryz.ntmps103;go_wp2_with fail;go_still_tail 13,gQ;change wpList _ _ _ _ _ w.drew;have P:Below w.heap.size w w.drew:=(Below.refl _ _).drew;have hb1:=hb.below P;have d4:=ho.below P;have c9:=uDA hc P;have k4:w.drew.cell? ⟨g,x,none⟩=some _:=k1;have k5:w.drew.frozen? ⟨g,x,none⟩=false:=k2;have hz:w.drew.heap.size=w.heap.size:=rfl;have tP:Turn F w w.drew:=Turn.of_below P;clear hb ho hc k1 k2 P d8;generalize w.drew=J at hb1 d4 c9 k4 k5 hz tP ⊢;obtain⟨o2,g2⟩:=oKA (k:=x) d4 rfl d1;have O:BoxN (J.setCell ⟨g,x,none⟩ (.int .u8 (d:Int))) B 121 #[.slice (some ⟨g,0,none⟩) b.mem.length cap,v]:=(g2.block B hb1.lt qQ).trans hb1;have q2:OwnC (J.setCell ⟨g,x,none⟩ (.int .u8 (d:Int))) 0 v b.log:=by
  refine World.ownsRow.kept c9 g2 ?_;cases hv:v.ownBlock with
  | none=>exact .inl rfl
  | some k=>exact .inr (by simpa using (Q k hv).2.2)
 have t2:Turn F w (J.setCell ⟨g,x,none⟩ (.int .u8 (d:Int))):=tP.trans (Turn.set _ _ _ _ fg);have c1:=O.cell 1 v rfl;have i7:(J.setCell ⟨g,x,none⟩ (.int .u8 (d:Int))).heap.size=w.heap.size:=by simp[hz]
 have HS:=j_ (And.intro o2 (And.intro O t2));clear o2 g2 O t2 hb1 d4 c9 tP;go_wp2_with (at_builtin;refine wpList_append_lies _ rfl _ _ 34 rfl 0 91 i0 (.agg #[.int .u16 0,.int .u8 0,.bool false]) 3 4 Tryz.underlying34 hi hz0 hz1 b6 rfl iQ _ _ _ rfl (World.ownsRow.alloc q2 _) ⟨w.heap.size,0,none⟩ 1 1 (gBA ⟨y,d,true⟩) rfl rfl ?c2 ?c6 iQ ?c3 ?c4 ?c5 _ rfl ?_)
 case c2=>
  intro j u hj;have:=eFA (J.setCell ⟨g,x,none⟩ (.int .u8 (d:Int))) _ _ _ 91 j u hj;rw[i7] at this;exact this
 case c6=>intro u hu;simp[gBA] at hu;rcases hu with rfl|rfl|rfl<;>rfl
 case c3=>unfold maxLen;have:=hf.2;omega
 case c4=>have:=hf.2;omega
 case c5=>exact Nat.zero_le _
 intro g' d9 K hown' hgrow a7 _;have c7:(b.mem.set x d).length=b.mem.length:=List.length_set;have H:=wNA (c:=⟨y,d,true⟩) (M:=b.mem.set x d) (by rw[c7];exact HS.out.2.1) (by rw[c7];exact HS.out.1) q2 fB fg hne Q (fun i hi=>hF i (by rw[<-i7];exact hi)) ((Below.refl _ _).alloc (Nat.le_refl _) _) hgrow hown' (fun k ek=>by
  simp only[Value.ownBlock,Option.some.injEq] at ek;subst ek;rcases a7 with h|h
  ·exact .inl h
  ·exact .inr gQh)
 have c4:=H.1.cell 1 v rfl;have f4:=H.1.frozen 1;have HF:=j_ (And.intro H.2.2.1 (HS.out.2.2.trans H.2.2.2));clear H hown' hgrow a7 HS;go_wp2
 (try simp only[Exit.inBlock,Exit.then])
 first|refine bodyPost_ret (results_none rfl _ _ _) rfl ?_|refine bodyPost_end (results_none rfl _ _ _) rfl ?_
 refine⟨rfl,?_⟩;have:=HF.out;unfold BusN.put;rw[HY.out,HX.out];exact this
def Less (F:Nat->Prop) (n k:Nat):Nat->Prop:=fun i=>F i/\(i < n\/n+k<=i)
structure Sit (F:Nat->Prop) (w:World) (k B:Nat) (W:World) (b:BusN):Prop where
 bus:BusAt W (Less F w.heap.size k) B b
 turn:Turn F w W
 size:w.heap.size+k<=W.heap.size
 new:∀ i,w.heap.size<=i->F i
theorem Sit.hF {F:Nat->Prop} {w W:World} {k B:Nat} {b:BusN} (s:Sit F w k B W b):∀ i,W.heap.size<=i->Less F w.heap.size k i:=fun i hi=>⟨s.new i (by have:=s.size;omega),.inr (by have:=s.size;omega)⟩
theorem BusAt.alloc {w:World} {F:Nat->Prop} {B:Nat} {b:BusN} (h:BusAt w F B b) (o:Obj):BusAt (w.alloc o) F B b:=h.below ((Below.refl _ _).alloc (Nat.le_refl _) _)
theorem Sit.zero {F:Nat->Prop} {w:World} {B:Nat} {b:BusN} (h:BusAt w F B b) (hF:∀ i,w.heap.size<=i->F i):Sit F w 0 B w b:=
 ⟨h.less (fun i hi hf=>⟨hf,.inl hi⟩),Turn.refl _ _,dQ,hF⟩
theorem Sit.one {F:Nat->Prop} {w:World} {B:Nat} {b:BusN} (h:BusAt w F B b) (hF:∀ i,w.heap.size<=i->F i) (o:Obj):Sit F w 1 B (w.alloc o) b:=
 ⟨(h.less (fun i hi hf=>⟨hf,.inl hi⟩)).alloc o,Turn.of_below ((Below.refl _ _).alloc (Nat.le_refl _) _),yQ,hF⟩
theorem Sit.two {F:Nat->Prop} {w:World} {B:Nat} {b:BusN} (h:BusAt w F B b) (hF:∀ i,w.heap.size<=i->F i) (o p:Obj):Sit F w 2 B ((w.alloc o).alloc p) b:=
 ⟨((h.less (fun i hi hf=>⟨hf,.inl hi⟩)).alloc o).alloc p,Turn.of_below (((Below.refl _ _).alloc (Nat.le_refl _) _).alloc yQ _),yQ,hF⟩
theorem Sit.below {F:Nat->Prop} {w W W':World} {k B:Nat} {b:BusN} (s:Sit F w k B W b) (h:Below W.heap.size W W'):Sit F w k B W' b:=
 ⟨s.bus.below h,s.turn.trans (Turn.of_below h),Nat.le_trans s.size h.size,s.new⟩
theorem Turn.wide {F:Nat->Prop} {n k:Nat} {a b:World} (h:Turn (Less F n k) a b):Turn F a b:=h.mono (fun _ _ hf=>hf.1)
theorem BusAt.set {W:World} {F:Nat->Prop} {B:Nat} {b:BusN} (h:BusAt W F B b) {n k:Nat} (v:Value) (E:¬ F n):BusAt (W.setCell ⟨n,k,none⟩ v) F B b:=by
 obtain⟨g,cap,u,hb,ho,hc,fB,fg,hne,Q⟩:=h;have hg:=zDA W n k v;refine⟨g,cap,u,?_,gFA ho hg (fun j ej=>?_),World.ownsRow.kept hc hg ?_,fB,fg,hne,Q⟩
 ·exact (hg.block B hb.lt (fun e=>E (by simp only[Option.some.injEq] at e;rw[<-e];exact fB))).trans hb
 ·simp only[Value.ownBlock,Option.some.injEq] at ej;intro e;exact E (by rw[<-e,<-ej];exact fg)
 ·cases hv:u.ownBlock with
  | none=>exact .inl rfl
  | some j=>exact .inr (by
    intro e;simp only[Option.some.injEq] at e;exact E (by rw[<-e];exact (Q j hv).1))
theorem Sit.set {F:Nat->Prop} {w W:World} {k B:Nat} {b:BusN} (s:Sit F w k B W b) {n o:Nat} (v:Value) (h1:w.heap.size<=n) (h2:n < w.heap.size+k):Sit F w k B (W.setCell ⟨n,o,none⟩ v) b:=
 ⟨s.bus.set v (fun hf=>by have:=hf.2;omega),s.turn.trans (Turn.set _ _ _ _ (s.new n h1)),by have:=s.size;simp;omega,s.new⟩
theorem Sit.six {F:Nat->Prop} {w W:World} {k B:Nat} {b:BusN} (s:Sit F w k B W b) {n:Nat} (v5 v6 v7 v8 v9 j0:Value) (h1:w.heap.size<=n) (h2:n < w.heap.size+k):Sit F w k B (set6 W n v5 v6 v7 v8 v9 j0) b:=
 (((((s.set v5 h1 h2).set v6 h1 h2).set v7 h1 h2).set v8 h1 h2).set v9 h1 h2).set j0 h1 h2
theorem Sit.out {F:Nat->Prop} {w W:World} {k B:Nat} {b:BusN} (s:Sit F w k B W b):BusAt W F B b/\Turn F w W:=
 ⟨s.bus.less (fun _ _ hf=>hf.1),s.turn⟩
structure Went (F:Nat->Prop) (w:World) (k B:Nat) (W W':World) (b:BusN):Prop where
 sit:Sit F w k B W' b
 box:∀ n t cs,w.heap.size<=n->n < w.heap.size+k->BoxN W n t cs->BoxN W' n t cs
theorem Sit.went {F:Nat->Prop} {w W W':World} {k B:Nat} {b b':BusN} (s:Sit F w k B W b) (hB:BusAt W' (Less F w.heap.size k) B b') (t:Turn (Less F w.heap.size k) W W'):Went F w k B W W' b':=
 ⟨⟨hB,s.turn.trans t.wide,Nat.le_trans s.size t.size,s.new⟩,fun n _ _ h1 h2 hb=>hb.turn t (fun hf=>by have:=hf.2;omega)⟩
theorem Sit.rd {F:Nat->Prop} {w W:World} {k B:Nat} {b:BusN} (s:Sit F w k B W b) (x:Int) (a:Nat) (hx:x=(a:Int)) (ha:a < 200000) (hf:b.fit 30) {z:Nat} {b':BusN} (hz:b.get a=z) (c8:b.rd a=b') :
  Calls Tryz.prog 76 #[.pointer (some ⟨B,0,none⟩),.int .i64 x] W fun e w'=>e=.returned (.int .u8 (z:Nat))/\Went F w k B W w' b':=by
 subst hx;subst hz;subst c8;refine (jGB _ B b a ha hf W s.hF s.bus).mono ?_;rintro e w' ⟨rfl,hb,ht⟩;exact⟨rfl,s.went hb ht⟩
theorem Sit.wr {F:Nat->Prop} {w W:World} {k B:Nat} {b:BusN} (s:Sit F w k B W b) (x y:Int) (a d:Nat) (hx:x=(a:Int)) (hy:y=(d:Int)) (ha:a < 200000) (hd:d < 256) (hf:b.fit 30) {b':BusN} (c8:b.put a d=b') :
  Calls Tryz.prog 103 #[.pointer (some ⟨B,0,none⟩),.int .i64 x,.int .u8 y] W fun e w'=>e=.returned (.tuple #[])/\Went F w k B W w' b':=by
 subst hx;subst hy;subst c8;refine (cZA _ B b a d ha hd hf W s.hF s.bus).mono ?_;rintro e w' ⟨rfl,hb,ht⟩;exact⟨rfl,s.went hb ht⟩
theorem pCB (x y:Nat) (hx:x < 256) (hy:y < 256) (w:World) :
  Calls Tryz.prog 106 #[.int .u8 x,.int .u8 y] w fun e w'=>e=.returned (.int .i64 (word x y:Nat))/\w=w':=by
 go_enter Tryz.func106,Tryz.ntmps106;go_wp2;go_ret;refine⟨?_,rfl⟩;unfold word;go_num
theorem qYA (x:Int) (a:Nat) (hx:x % 256=((a % 256:Nat):Int)) (h0:-1000<=x) (h1:x<=1000) (w:World) :
  Calls Tryz.prog 104 #[.int .i64 x] w fun e w'=>e=.returned (.int .i64 (stk a:Nat))/\w=w':=by
 have hA:bits .and .i64 x 255=((a % 256:Nat):Int):=by rw[rCA,hx]
 obtain⟨y,hy⟩:∃ y,a % 256=y:=⟨_,rfl⟩;have i6:y < 256:=dQ;have HY:=j_ hy;rw[hy] at hA;clear hx hy;go_enter Tryz.func104,Tryz.ntmps104;go_wp2;go_ret;refine⟨?_,rfl⟩;unfold stk;rw[HY.out];go_num
theorem xXA (c:CpuN) (hc:c.ok) (m:Int) (h0:0<=m) (h1:m<=12) (w:World) :
  Calls Tryz.prog 141 #[cpuV c,.int .i64 m] w fun e w'=>e=.returned (.int .i64 (idxN c m:Nat))/\Below w.heap.size w w':=by
 obtain⟨hA,hX,hY,hS,hP⟩:=hc;have hm:m=0\/m=1\/m=2\/m=3\/m=4\/m=5\/m=6\/m=7\/m=8\/m=9\/m=10\/m=11\/m=12:=dQ;rcases hm with rfl|rfl|rfl|rfl|rfl|rfl|rfl|rfl|rfl|rfl|rfl|rfl|rfl
 all_goals
  go_enter Tryz.func141,Tryz.ntmps141;go_wp2;refine bodyPost_ret (v:=.int .i64 (idxN c _:Nat)) (by simp[results,Tryz.results141,go_sem,idxN]) rfl ⟨rfl,?_⟩;exact (Below.refl _ _).alloc (Nat.le_refl _) _
theorem lDA (c:CpuN) (hc:c.ok) (m:Int) (h0:0<=m) (h1:m<=12) {i:Nat} (hi:idxN c m=i) (w:World) :
  Calls Tryz.prog 141 #[cpuV c,.int .i64 m] w fun e w'=>e=.returned (.int .i64 (i:Nat))/\Below w.heap.size w w':=by
 subst hi;exact xXA c hc m h0 h1 w
theorem mCA (x y:Nat) (hx:x < 256) (hy:y < 256) {a:Nat} (ha:word x y=a) (w:World) :
  Calls Tryz.prog 106 #[.int .u8 x,.int .u8 y] w fun e w'=>e=.returned (.int .i64 (a:Nat))/\w=w':=by
 subst ha;exact pCB x y hx hy w

end Go.Proofs.YtckfdbjjjgfbfaaGreat
