import Derived.Test.YtckfdbjjjgfbfaaGreatRPhr
import Derived.Test.YtckfdbjjjgfbfaaGreatRRegStep
import Derived.Laws.AppendOwnNone
import Derived.StillTailTactics
import Derived.IntWalk
import Derived.Deep.QuietTactic
import Derived.BigQuiet
set_option linter.unusedVariables false
set_option linter.unusedSimpArgs false
set_option maxRecDepth 100000
set_option maxHeartbeats 4000000
namespace Go.Proofs.YtckfdbjjjgfbfaaGreat
open Go.RowKit
abbrev ramV (v:Value):Value:=.agg #[v]
def ramN (n:Nat):Bool:=decide (n=256\/n=512\/n=1024\/n=2048\/n=4096)
theorem hJA {n:Nat} (h:ramN n=true):n=256\/n=512\/n=1024\/n=2048\/n=4096:=of_decide_eq_true h
theorem eBA {n:Nat} (h:ramN n=true):256<=n/\n<=4096:=by have:=hJA h;omega
theorem kGB {n:Nat} (h:ramN n=false):((n:Int)==256)=false/\((n:Int)==512)=false/\((n:Int)==1024)=false/\((n:Int)==2048)=false/\((n:Int)==4096)=false:=by
 have:=of_decide_eq_false h;simp only[beq_eq_false_iff_ne];omega
theorem eWA (a:Option Addr) (n c:Nat) (l:Int) (K:n<=maxLen) (hl:0<=l/\l<=1048576) (w:World) :
  Calls Tryz.prog 48 #[.slice a n c,.int .i64 l] w fun e w'=>e=.returned (.int .i64 (if l - n < 0 then -1 else l - n))/\w=w':=by
 unfold maxLen at K;by_cases h:l - n < 0
 ·rw[if_pos h];go_enter Tryz.func48,Tryz.ntmps48;go_wp2;go_ret;exact⟨rfl,rfl⟩
 ·rw[if_neg h];go_enter Tryz.func48,Tryz.ntmps48;go_wp2;go_ret;exact⟨rfl,rfl⟩
theorem eKA (a:Option Addr) (n c:Nat) (l:Int) (K:n<=maxLen) (hl:0<=l/\l<=1048576) (w:World) :
  Calls Tryz.prog 18 #[ramV (.slice a n c),.int .i64 l] w fun e w'=>e=.returned (.int .i64 (if l - n < 0 then -1 else l - n))/\Below w.heap.size w w':=by
 by_cases h:l - n < 0
 ·have HS:=fun w=>eWA a n c l K hl w
  rw[if_pos h] at HS ⊢;clear h;go_enter Tryz.func18,Tryz.ntmps18;go_wp2_with fail;refine (HS _).mono ?_;rintro e w' ⟨rfl,rfl⟩;go_wp2;go_ret;exact⟨rfl,(Below.refl _ _).alloc (Nat.le_refl _) _⟩
 ·have HS:=fun w=>eWA a n c l K hl w
  rw[if_neg h] at HS ⊢;obtain⟨q,hq⟩:∃ q,l - (n:Int)=q:=⟨_,rfl⟩;rw[hq] at HS h ⊢;clear hq;go_enter Tryz.func18,Tryz.ntmps18;go_wp2_with fail;refine (HS _).mono ?_;rintro e w' ⟨rfl,rfl⟩;go_wp2;go_ret;exact⟨rfl,(Below.refl _ _).alloc (Nat.le_refl _) _⟩
theorem tKA (w:World) (L:List Nat) (hL:L.length<=maxLen) (hb:∀ i,i < L.length->L.getD i 0 < 256):OwnB (w.alloc (.cells (L.map u8V).toArray 5)) w.heap.size (.slice (some ⟨w.heap.size,0,none⟩) L.length L.length) L:=
 ⟨hb,xQ,.inr ⟨w.heap.size,L.length,(L.map u8V).toArray,rfl,Nat.le_refl _,heap_alloc_new w _,Nat.le_refl _,hL,xQ,by simp[List.take_of_length_le]⟩⟩
theorem aIA (a:Option Addr) (cap:Nat) (L:List Nat) (w:World) (hl:L.length<=1048576) (h:RowB w a L) :
  Calls Tryz.prog 21 #[ramV (.slice a L.length cap)] w fun e w'=>∃ g,e=.returned (ramV (.slice (some ⟨g,0,none⟩) L.length L.length))/\OwnB w' w.heap.size (.slice (some ⟨g,0,none⟩) L.length L.length) L/\Below w.heap.size w w':=by
 have HL:=hQ h;clear h;go_enter Tryz.func21,Tryz.ntmps21;go_wp2_with fail;refine (hHB a cap L _ hl (HL.out.below (((((Below.refl _ _).alloc (Nat.le_refl _) _).alloc xQ _).alloc qQ _)))).mono ?_;rintro e w' ⟨rfl,rfl⟩;go_wp2;refine bodyPost_ret (v:=ramV (.slice (some ⟨w.heap.size+1+1+1,0,none⟩) L.length L.length)) (by simp[results,Tryz.results21,go_sem]) rfl ⟨_,rfl,?_,?_⟩
 ·have:=tKA (((w.alloc (Obj.cells #[Value.slice a L.length cap] 53)).alloc (Obj.cells #[Value.slice (some ⟨w.heap.size+1+1+1,0,none⟩) L.length L.length] 30)).alloc (Obj.cells #[Value.slice (some ⟨w.heap.size+1+1+1,0,none⟩) L.length L.length] 30)) L wQc HL.out.1;simp only[World.size_alloc] at this;exact OwnB.base this dQ
 ·exact ((((Below.refl _ _).alloc (Nat.le_refl _) _).alloc xQ _).alloc qQ _).alloc qQ _
theorem wIA {n:Nat} (h:ramN n=true):((n:Int)==256)=true\/(((n:Int)==256)=false/\((n:Int)==512)=true)\/(((n:Int)==256)=false/\((n:Int)==512)=false/\((n:Int)==1024)=true) \/
  (((n:Int)==256)=false/\((n:Int)==512)=false/\((n:Int)==1024)=false/\((n:Int)==2048)=true)\/(((n:Int)==256)=false/\((n:Int)==512)=false/\((n:Int)==1024)=false/\((n:Int)==2048)=false/\((n:Int)==4096)=true):=by
 have:=hJA h;simp only[beq_iff_eq,beq_eq_false_iff_ne];omega
theorem qBA (a:Option Addr) (n c:Nat) (w:World) :
  Calls Tryz.prog 10 #[ramV (.slice a n c)] w fun e w'=>e=.returned (.bool (ramN n))/\Below w.heap.size w w':=by
 cases h:ramN n with
 | false=>
  obtain⟨t1,t2,t3,t4,t5⟩:=kGB h;clear h;go_enter Tryz.func10,Tryz.ntmps10;go_wp2;go_ret;exact⟨rfl,(Below.refl _ _).alloc (Nat.le_refl _) _⟩
 | true=>
  rcases wIA h with t1|⟨t1,t2⟩|⟨t1,t2,t3⟩|⟨t1,t2,t3,t4⟩|⟨t1,t2,t3,t4,t5⟩
  all_goals
   clear h;go_enter Tryz.func10,Tryz.ntmps10;go_wp2;go_ret;exact⟨rfl,(Below.refl _ _).alloc (Nat.le_refl _) _⟩
def ramI (n:Int):Bool:=decide (0<=n) && ramN n.toNat
def newL (n:Int):List Nat:=if ramI n=true then List.replicate n.toNat 0 else []
theorem dTA (n:Int) (w:World) :
  Calls Tryz.prog 94 #[.int .i64 n] w fun e w'=>∃ v,e=.returned (ramV v)/\OwnB w' w.heap.size v (newL n)/\Below w.heap.size w w':=by
 cases h:ramI n with
 | false=>
  have hL:newL n=[]:=by unfold newL;rw[h];rfl
  rw[hL];have ht:(n==256)=false/\(n==512)=false/\(n==1024)=false/\(n==2048)=false/\(n==4096)=false:=by
   unfold ramI at h;rw[Bool.and_eq_false_iff] at h;simp only[beq_eq_false_iff_ne];rcases h with h|h
   ·have:=of_decide_eq_false h;omega
   ·have:=of_decide_eq_false h;omega
  obtain⟨t1,t2,t3,t4,t5⟩:=ht;clear h hL;go_enter Tryz.func94,Tryz.ntmps94;go_wp2;exact bodyPost_ret (v:=ramV (.slice none 0 0)) (by simp[results,Tryz.results94,go_sem]) rfl ⟨_,rfl,zDA _ _,(Below.refl _ _).alloc (Nat.le_refl _) _⟩
 | true=>
  unfold ramI at h;rw[Bool.and_eq_true] at h;obtain⟨d,rfl⟩:=Int.eq_ofNat_of_zero_le (of_decide_eq_true h.1);have hr:ramN d=true:=by simpa using h.2
  have hL:newL d=List.replicate d 0:=by unfold newL ramI;rw[if_pos (by simp[hr])];simp
  have e7:=fun w=>makeB d (by have:=eBA hr;omega) w
  have hb:=eBA hr;rw[hL];clear h hL;rcases wIA hr with t1|⟨t1,t2⟩|⟨t1,t2,t3⟩|⟨t1,t2,t3,t4⟩|⟨t1,t2,t3,t4,t5⟩
  all_goals
   clear hr;go_enter Tryz.func94,Tryz.ntmps94;go_wp2;refine bodyPost_ret (v:=ramV (.slice (some ⟨w.heap.size+1,0,none⟩) d d)) (by simp[results,Tryz.results94,go_sem]) rfl ⟨_,rfl,?_,?_⟩
   ·have:=tKA (w.alloc (Obj.cells #[Value.slice (some ⟨w.heap.size+1,0,none⟩) d d] 30)) (List.replicate d 0) dQh (fun i hi=>qQg);simp only[World.size_alloc,List.length_replicate,List.map_replicate,u8V] at this;exact OwnB.base this dQ
   ·exact ((Below.refl _ _).alloc (Nat.le_refl _) _).alloc xQ _
theorem rMA {w w':World} {row:Option Nat} (h:Below w.heap.size w w'):w.grownBy w' row:=⟨h.os,h.tape,h.output,h.size,fun i hi _=>h.block i hi⟩
theorem pZA (a1 a2:Option Addr) (c1 c2:Nat) (L:List Nat) (w:World) (hl:L.length<=9223372036854775806) (h1:RowB w a1 L) (h2:RowB w a2 L) :
  Calls Tryz.prog 24 #[ramV (.slice a1 L.length c1),ramV (.slice a2 L.length c2)] w fun e w'=>e=.returned (.bool true)/\Below w.heap.size w w':=by
 have z:Below w.heap.size w ((w.alloc (.cells #[.slice a1 L.length c1] 30)).alloc (.cells #[.slice a2 L.length c2] 30)):=((Below.refl _ _).alloc (Nat.le_refl _) _).alloc xQ _;have r1:=h1.below z;have r2:=h2.below z;clear h1 h2;go_enter Tryz.func24,Tryz.ntmps24;go_wp2_with fail;refine (sDB a1 a2 c1 c2 L _ hl r1 r2).mono ?_;rintro e w' ⟨rfl,k,rfl⟩;go_wp2;go_ret;exact⟨rfl,below_drewN z k⟩
theorem rUA (g n cap k0:Nat) (base:Nat) (L:List Nat) (w:World) (K:n=L.length) (hb:k0+n<=9223372036854775806) (h:OwnB w base (.slice (some ⟨g,0,none⟩) n cap) L) :
  Calls Tryz.prog 26 #[ramV (.slice (some ⟨g,0,none⟩) n cap),.int .i64 k0] w fun e w'=>e=.returned (.int .i64 (k0+n:Nat))/\OwnB w' base (.slice (some ⟨g,0,none⟩) n cap) (pDA k0 n)/\w.grownBy w' (some g):=by
 subst K;have ho:=h.below ((Below.refl _ _).alloc (Nat.le_refl _) (.cells #[.slice (some ⟨g,0,none⟩) L.length cap] 30));clear h;go_enter Tryz.func26,Tryz.ntmps26;go_wp2_with fail;refine (rAB g L.length cap k0 base L _ rfl hb ho).mono ?_;rintro e w' ⟨rfl,ho2,hg⟩;go_wp2;go_ret;exact⟨rfl,ho2,fDA (rMA ((Below.refl _ _).alloc (Nat.le_refl _) _)) hg⟩
theorem lOA (a:Option Addr) (cap:Nat) (k0:Int) (w:World) :
  Calls Tryz.prog 26 #[ramV (.slice a 0 cap),.int .i64 k0] w fun e w'=>e=.returned (.int .i64 k0)/\Below w.heap.size w w':=by
 go_enter Tryz.func26,Tryz.ntmps26;go_wp2_with fail;refine (gVA a cap k0 _).mono ?_;rintro e w' ⟨rfl,rfl⟩;go_wp2;go_ret;exact⟨rfl,(Below.refl _ _).alloc (Nat.le_refl _) _⟩
theorem iVA (a:Option Addr) (n cap k0:Nat) (w:World) (hb:k0+n<=9223372036854775806) (h:RowB w a (pDA k0 n)) :
  Calls Tryz.prog 62 #[ramV (.slice a n cap),.int .i64 k0] w fun e w'=>e=.returned (.int .i64 (k0+n:Nat))/\Below w.heap.size w w':=by
 have z:Below w.heap.size w (w.alloc (.cells #[.slice a n cap] 30)):=(Below.refl _ _).alloc (Nat.le_refl _) _;have r1:=h.below z;clear h;have hk:¬ ((k0+n:Nat):Int) < 0:=dQ;go_enter Tryz.func62,Tryz.ntmps62;go_wp2_with fail;refine (mAB a n cap k0 _ hb r1).mono ?_;rintro e w' ⟨rfl,rfl⟩;go_wp2;go_ret;exact⟨rfl,z⟩
def peekL (L:List Nat) (addr:Nat):Nat:=if ramN L.length=true then L.getD (addr % L.length) 0 else 0
theorem bHA (addr n:Nat) (K:0 < n):(addr:Int).tmod (n:Int)=((addr % n:Nat):Int):=by
 rw[Int.tmod_eq_emod_of_nonneg dQ];omega
theorem pQA (a:Option Addr) (c addr:Nat) (L:List Nat) (ha:addr < 65536) (w:World) (hr:RowB w a L) :
  Calls Tryz.prog 79 #[ramV (.slice a L.length c),.int .u16 addr] w fun e w'=>e=.returned (.int .u8 (peekL L addr))/\Below w.heap.size w w':=by
 have T:=fun w=>qBA a L.length c w
 cases h:ramN L.length with
 | false=>
  have e:peekL L addr=0:=by unfold peekL;rw[h];rfl
  rw[e];rw[h] at T;clear h e;go_enter Tryz.func79,Tryz.ntmps79;go_wp2_with fail;refine (T _).mono ?_;rintro e E ⟨rfl,z⟩;have U:=bstep ((Below.refl _ _).alloc (Nat.le_refl _) _) z;go_wp2;go_ret;exact⟨rfl,U⟩
 | true=>
  have hb:=eBA h;obtain⟨g,o,rfl,hg,hc⟩:=hr.2 dQ;obtain⟨k,hk⟩:∃ k,addr % L.length=k:=⟨_,rfl⟩;have b0:k < L.length:=kQe;have e:peekL L addr=L.getD k 0:=by unfold peekL;rw[if_pos h,hk]
  rw[e];have H:=hc k b0;obtain⟨x,hx⟩:∃ x,L.getD k 0=x:=⟨_,rfl⟩;rw[hx] at H ⊢;have c7:x < 256:=by rw[<-hx];exact hr.1 k b0
  rw[h] at T;have HK:=hQ (show (addr:Int).tmod (L.length:Int)=(k:Int) by rw[bHA _ _ dQ,hk]);have a6:=(((Below.refl _ _).alloc (Nat.le_refl _) (.cells #[.slice (some ⟨g,o,none⟩) L.length c] 30)).cell (p:=⟨g,o+k,none⟩) hg).trans H;unfold u8V at a6;have e0:((L.length:Int)==0)=false:=beq_eq_false_iff_ne.2 dQ;have ik:(0:Int)<=(k:Int)/\(k:Int) < (L.length:Int):=dQ;clear h e hc hx hr hk H;go_enter Tryz.func79,Tryz.ntmps79;go_wp2_with fail;refine (T _).mono ?_;rintro e E ⟨rfl,z⟩;have hs1:w.heap.size < E.heap.size:=Nat.lt_of_lt_of_le xQ z.size;have i2:E.cell? ⟨w.heap.size,0,none⟩=some (.slice (some ⟨g,o,none⟩) L.length c):=(z.cell (p:=⟨w.heap.size,0,none⟩) xQ).trans xQ;have O:=(z.cell (p:=⟨g,o+k,none⟩) qQ).trans a6;have U:=bstep ((Below.refl _ _).alloc (Nat.le_refl _) _) z;have e8:IntKind.i64.wrap (addr:Int)=(addr:Int):=IntWalk.i64_in _ dQ;have i3:(addr:Int).tmod (L.length:Int)=(k:Int):=HK.out;have i6:IntKind.i64.wrap (k:Int)=(k:Int):=IntWalk.i64_in _ dQ;clear z a6;go_wp2_with fail;go_quiet (fail);go_wp2;go_ret;exact⟨rfl,below_drewN U _⟩
theorem boxAt {w E:World} {B:Nat} {t:TypeId} {v:Value} (h:Boxed w B t v) (hb:Below w.heap.size w E):Boxed E B t v:=(hb.block B h.lt).trans h
theorem jFA {w:World} {g o:Nat} {L:List Nat} (h:RowB w (some ⟨g,o,none⟩) L):∀ j u,(L.map u8V)[j]?=some u->w.cell? ((⟨g,o,none⟩:Addr).add j)=some u:=by
 intro j u hu;have hj:j < L.length:=by
  rcases Nat.lt_or_ge j L.length with q|q
  ·exact q
  ·rw[List.getElem?_eq_none (by simpa using q)] at hu;cases hu
 obtain⟨g',o',e,_,hc⟩:=h.2 dQ;simp only[Option.some.injEq,Addr.mk.injEq,and_true] at e;obtain⟨rfl,rfl⟩:=e;have b9:(⟨g,o,none⟩:Addr).add j=⟨g,o+j,none⟩:=gQh;rw[b9,hc j hj];rw[List.getElem?_map,List.getElem?_eq_getElem hj] at hu;simp only[Option.map_some,Option.some.injEq] at hu;rw[<-hu];simp[List.getD,hj]
theorem hGA (w:World) (B:Nat) (v:Value):w.grownBy (w.setCell ⟨B,0,none⟩ v) (some B):=grownBy_setCell' w B v
theorem qLA {w:World} {base g n cap:Nat} {L:List Nat} {k x:Nat} (h:OwnB w base (.slice (some ⟨g,0,none⟩) n cap) L) (K:n=L.length) (hx:x < 256) :
  OwnB (w.setCell ⟨g,k,none⟩ (.int .u8 (x:Int))) base (.slice (some ⟨g,0,none⟩) n cap) (L.set k x)/\w.grownBy (w.setCell ⟨g,k,none⟩ (.int .u8 (x:Int))) (some g):=by
 subst K;have hst:=World.ownsRow.stored h.2 k (u8V x);refine⟨⟨fun i hi=>?_,?_⟩,hst.2⟩
 ·rw[List.length_set] at hi;by_cases d0:i=k
  ·subst d0;simp only[List.getD,List.getElem?_set_self hi,Option.getD_some];exact hx
  ·simp only[List.getD,List.getElem?_set_ne (Ne.symm d0)];exact h.1 i hi
 ·rw[List.length_set,List.map_set];exact hst.1
theorem aGA {w:World} {base g n cap:Nat} {L:List Nat} {k:Nat} (h:OwnB w base (.slice (some ⟨g,0,none⟩) n cap) L) (hk:k < L.length):w.cell? ⟨g,k,none⟩=some (.int .u8 (L.getD k 0:Int))/\w.frozen? ⟨g,k,none⟩=false:=by
 obtain⟨_,hr⟩:=h.row;obtain⟨g',o',c0,_,hc⟩:=hr.2 dQ;simp only[Option.some.injEq,Addr.mk.injEq,and_true] at c0;obtain⟨rfl,rfl⟩:=c0;have a5:=hc k hk;rw[Nat.zero_add] at a5;obtain⟨rfl,_⟩:=h.row;exact⟨a5,World.ownsRow.frozenAt h.2 k⟩
def gCA (n addr:Nat):List Nat->Nat->List Nat->List Nat
 | [],_,M=>M
 | x :: r,i,M=>gCA n addr r (i+1) (M.set ((addr+i) % 65536 % n) x)
def fillL (L:List Nat) (addr:Nat) (X:List Nat):List Nat:=if ramN L.length=true/\X.length<=1024 then gCA L.length addr X 0 L else []
theorem iMA (n addr:Nat):∀ (X:List Nat) (i:Nat) (M:List Nat),(gCA n addr X i M).length=M.length
 | [],_,_=>rfl
 | x :: r,i,M=>by rw[gCA,iMA n addr r,List.length_set]
theorem kDB (X:List Nat) (j:Nat) (h:j < X.length):X.drop j=X.getD j 0 :: X.drop (j+1):=by
 rw[List.drop_eq_getElem_cons h];simp[List.getD,h]
theorem lTA (n addr:Nat) (X:List Nat) (j:Nat) (M:List Nat) (h:j < X.length):gCA n addr (X.drop j) j M=gCA n addr (X.drop (j+1)) (j+1) (M.set ((addr+j) % 65536 % n) (X.getD j 0)):=by
 rw[kDB X j h,gCA]
theorem xCB (addr j n:Nat) (K:0 < n):(((addr:Int)+(j:Int)).tmod 65536).tmod (n:Int)=(((addr+j) % 65536 % n:Nat):Int):=by
 rw[show (addr:Int)+(j:Int)=((addr+j:Nat):Int) by omega,show (65536:Int)=((65536:Nat):Int) from rfl,bHA (addr+j) 65536 dQ,bHA _ n K]
theorem aTA (a:Option Addr) (c addr:Nat) (L:List Nat) (ax:Option Addr) (nx cx:Nat) (w:World) (h:ramN L.length=false\/1024 < nx) (hx:nx<=maxLen) :
  Calls Tryz.prog 69 #[ramV (.slice a L.length c),.int .u16 addr,.slice ax nx cx] w fun e w'=>e=.returned (ramV (.slice none 0 0))/\Below w.heap.size w w':=by
 have T:=fun w=>qBA a L.length c w
 have a0:(nx:Int)<=9223372036854775807:=by unfold maxLen at hx;omega
 cases h1:ramN L.length with
 | false=>
  rw[h1] at T;clear h h1;go_enter Tryz.func69,Tryz.ntmps69;go_wp2_with fail;refine (T _).mono ?_;rintro e E ⟨rfl,z⟩;have J:=boxAt (Boxed.new (w.alloc (.cells #[.slice a L.length c] 30)) 30 (.slice none 0 0)) z;rw[World.size_alloc] at J;have U:=bstep (((Below.refl _ _).alloc (Nat.le_refl _) _).alloc xQ _) z;have O:=J.cell;have b7:=J.frozen;have hcx2:=(J.set (.slice none 0 0)).cell;go_wp2;exact bodyPost_ret (v:=ramV (.slice none 0 0)) nQh rfl ⟨rfl,U.setCell xQ _⟩
 | true=>
  have e2:(1024:Int) < (nx:Int):=by rcases h with h|h;rw[h1] at h;cases h;omega
  rw[h1] at T;clear h h1;go_enter Tryz.func69,Tryz.ntmps69;go_wp2_with fail;refine (T _).mono ?_;rintro e E ⟨rfl,z⟩;have J:=boxAt (Boxed.new (w.alloc (.cells #[.slice a L.length c] 30)) 30 (.slice none 0 0)) z;rw[World.size_alloc] at J;have U:=bstep (((Below.refl _ _).alloc (Nat.le_refl _) _).alloc xQ _) z;have O:=J.cell;have b7:=J.frozen;have hcx2:=(J.set (.slice none 0 0)).cell;go_wp2;exact bodyPost_ret (v:=ramV (.slice none 0 0)) nQh rfl ⟨rfl,U.setCell xQ _⟩
theorem gSA (a:Option Addr) (c addr:Nat) (L:List Nat) (ax:Option Addr) (cx:Nat) (X:List Nat) (ha:addr < 65536) (w:World) (hr:RowB w a L) (hx:RowB w ax X) (h:ramN L.length=true) (hX:X.length<=1024) :
  Calls Tryz.prog 69 #[ramV (.slice a L.length c),.int .u16 addr,.slice ax X.length cx] w fun e w'=>∃ v,e=.returned (ramV v)/\OwnB w' w.heap.size v (gCA L.length addr X 0 L)/\Below w.heap.size w w':=by
 have T:=fun w=>qBA a L.length c w
 rw[h] at T;have K:=eBA h;have e0:((L.length:Int)==0)=false:=beq_eq_false_iff_ne.2 dQ;have e6:¬ (1024:Int) < (X.length:Int):=dQ;obtain⟨g,o,rfl,hg,_⟩:=hr.2 dQ;obtain⟨i0,hi,hz0,hz1,d7⟩:=info_parts xFA;have HR:=hQ hr;have HX:=hQ hx;clear h hr hx;go_enter Tryz.func69,Tryz.ntmps69;go_wp2_with fail;refine (T _).mono ?_;rintro e E ⟨rfl,z⟩;have J:=boxAt (Boxed.new (w.alloc (.cells #[.slice (some ⟨g,o,none⟩) L.length c] 30)) 30 (.slice none 0 0)) z;have bp:=boxAt ((Boxed.new w 30 (.slice (some ⟨g,o,none⟩) L.length c)).alloc (.cells #[.slice none 0 0] 30)) z;rw[World.size_alloc] at J;have U:=bstep (((Below.refl _ _).alloc (Nat.le_refl _) _).alloc xQ _) z;have hs1:=U.size;have i1:=J.lt;clear z;have e1:=(bp.alloc (.cells #[] 5)).cell;have HN:=hQ (RowB.below (RowB.below HR.out U) ((Below.refl _ E).alloc (Nat.le_refl _) (.cells #[] 5)));have c9:=yFA (base:=E.heap.size) E rfl (Nat.le_refl _);go_wp2_with (at_builtin;refine wpList_append_own _ rfl _ _ 22 rfl E.heap.size 5 i0 (.int .u8 0) 1 1 Tryz.underlying22 hi hz0 hz1 d7 rfl iQ _ _ _ rfl c9 ⟨g,o,none⟩ L.length c (L.map u8V) rfl xQ (jFA HN.out) (oFA L) ?c3 ?c4 ?c5 ?_)
 case c3=>unfold maxLen;first|omega|(simp;omega)
 case c4=>first|omega|(simp;omega)
 case c5=>first|omega|(simp;done)|(simp;omega)
 intro v' w4 hown' hgrow _;have a7:OwnB w4 E.heap.size v' L:=⟨HR.out.1,tQh⟩;obtain⟨g4,c4,rfl,_⟩:=a7.cells dQ;have e4:=((World.ownsRow.lt a7.2) g4 rfl).1;have c8:Boxed w4 (w.heap.size+1) 30 (.slice none 0 0):=(J.alloc _).kept hgrow pQe;have b4:Below w.heap.size w w4:=(U.alloc dQ _).grown hgrow qQ (fun j ej=>mQd);have e3:=hQ (RowB.below HX.out b4);have H4:=hQ (And.intro a7 (And.intro c8 b4));clear hown' hgrow a7 c8 J bp e1 c9 U b4;go_wp2;go_loopw [8] (fun i wr=>∃ (j:Nat) (M:List Nat),j<=X.length/\i=.int .i64 j/\Hid (M.length=L.length/\OwnB wr E.heap.size (.slice (some ⟨g4,0,none⟩) L.length c4) M/\Boxed wr (w.heap.size+1) 30 (.slice none 0 0)/\Below w.heap.size w wr/\gCA L.length addr (X.drop j) j M=gCA L.length addr X 0 L)) (fun i _=>X.length - (intOf i).toNat)
 case atStart=>exact⟨0,L,Nat.zero_le _,rfl,hQ ⟨rfl,H4.out.1,H4.out.2.1,H4.out.2.2,rfl⟩⟩
 case round=>
  obtain⟨j,M,hj,rfl,HI⟩:=hrel;by_cases hp:j < X.length
  ·obtain⟨k,hk⟩:∃ k,(addr+j) % 65536 % L.length=k:=⟨_,rfl⟩;have b0:k < L.length:=kQe;have HK:=hQ hk;have hT:=xCB addr j L.length dQ;rw[hk] at hT;clear hk;obtain⟨hM,R,Q,bM,hF⟩:=HI.out;obtain⟨H,d4⟩:=aGA R (k:=k) dQ;obtain⟨gx,ox,rfl,hgx,O⟩:=HX.out.2 dQ;have b3:=(bM.cell (p:=⟨gx,ox+j,none⟩) hgx).trans (O j hp);obtain⟨x,a0⟩:∃ x,X.getD j 0=x:=⟨_,rfl⟩;obtain⟨y,hy⟩:∃ y,M.getD k 0=y:=⟨_,rfl⟩;rw[a0] at b3;rw[hy] at H;have c7:x < 256:=by rw[<-a0];exact HX.out.1 j hp
   unfold u8V at b3;have d9:=hQ a0;have a1:IntKind.i64.wrap (addr:Int)=(addr:Int):=IntWalk.i64_in _ dQ;have a2:IntKind.i64.wrap ((addr:Int)+(j:Int))=(addr:Int)+(j:Int):=IntWalk.i64_in _ dQ;have ij:(0:Int)<=(j:Int)/\(j:Int) < (X.length:Int):=dQ;have ik:(0:Int)<=(k:Int)/\(k:Int) < (L.length:Int):=dQ;have d3:((addr:Int)+(j:Int)).tmod 65536=(((addr+j) % 65536:Nat):Int):=by
    rw[show (addr:Int)+(j:Int)=((addr+j:Nat):Int) by omega,show (65536:Int)=((65536:Nat):Int) from rfl,bHA _ _ dQ]
   obtain⟨q,hq⟩:∃ q,(addr+j) % 65536=q:=⟨_,rfl⟩;have e9:q < 65536:=dQ;rw[hq] at d3;rw[d3] at hT;have HF:=hQ hF;have a8:=hQ R;clear a0 hy O hF R hq;have i5:¬ (L.length:Int)=0:=dQ;have i4:¬ L.length=0:=dQ;have a3:IntKind.i64.wrap (k:Int)=(k:Int):=IntWalk.i64_in _ dQ;have a4:IntKind.i64.wrap (q:Int)=(q:Int):=IntWalk.i64_in _ dQ;go_wp2_with fail;go_still_tail 14,gQ;change wpList _ _ _ _ _ wr.drew;have b6:wr.drew.cell? ⟨g4,k,none⟩=some (.int .u8 (y:Int)):=H;have b8:wr.drew.frozen? ⟨g4,k,none⟩=false:=d4;have W:Hid (OwnB wr.drew E.heap.size (.slice (some ⟨g4,0,none⟩) L.length c4) M):=hQ a8.out;have a9:Boxed wr.drew (w.heap.size+1) 30 (.slice none 0 0):=Q;have d1:=bM.drew;clear H d4 a8 Q bM b3 HI;generalize wr.drew=w5 at b6 b8 W a9 d1 ⊢;obtain⟨d2,b5⟩:=qLA (k:=k) W.out hM.symm c7;have d6:=hQ d2;have d8:=hQ b5;clear d2 b5 W;go_wp2;go_roundw
   case rel=>
    refine⟨j+1,M.set k x,dQ,bQe,hQ ⟨by rw[List.length_set];exact hM,d6.out,a9.kept d8.out qQ,d1.setCell (by show w.heap.size<=g4;omega) _,?_⟩⟩;rw[<-HF.out,lTA _ _ _ _ _ hp,HK.out,d9.out]
   case measure=>simp[intOf];omega
  ·obtain rfl:j=X.length:=dQ;obtain⟨hM,R,Q,bM,hF⟩:=HI.out;have O:=Q.cell;have b7:=Q.frozen;have hcx2:=(Q.set (.slice (some ⟨g4,0,none⟩) L.length c4)).cell;have a8:=hQ R;have HF:=hQ hF;clear R hF;go_wp2;refine bodyPost_ret (v:=ramV (.slice (some ⟨g4,0,none⟩) L.length c4)) nQh rfl ⟨_,rfl,zEA (OwnB.base (b':=w.heap.size) ?_ dQ) (hGA _ _ _) (fun q hq=>by simp[Value.ownBlock] at hq;omega),bM.setCell xQ _⟩;have:=HF.out;rw[List.drop_length,gCA] at this;rw[<-this];exact a8.out
theorem tPA (a:Option Addr) (c addr:Nat) (L:List Nat) (ax:Option Addr) (cx:Nat) (X:List Nat) (ha:addr < 65536) (w:World) (hr:RowB w a L) (hx:RowB w ax X) (hX:X.length<=maxLen) :
  Calls Tryz.prog 69 #[ramV (.slice a L.length c),.int .u16 addr,.slice ax X.length cx] w fun e w'=>∃ v,e=.returned (ramV v)/\OwnB w' w.heap.size v (fillL L addr X)/\Below w.heap.size w w':=by
 by_cases h:ramN L.length=true/\X.length<=1024
 ·have e:fillL L addr X=gCA L.length addr X 0 L:=if_pos h;rw[e];exact gSA a c addr L ax cx X ha w hr hx h.1 h.2
 ·have e:fillL L addr X=[]:=if_neg h;rw[e];refine (aTA a c addr L ax X.length cx w (by
   cases K:ramN L.length with
   | false=>exact .inl rfl
   | true=>exact .inr (by rw[K] at h;simp at h;exact h)) hX).mono ?_
  rintro e w' ⟨rfl,hb⟩;exact⟨_,rfl,zDA _ _,hb⟩

end Go.Proofs.YtckfdbjjjgfbfaaGreat
