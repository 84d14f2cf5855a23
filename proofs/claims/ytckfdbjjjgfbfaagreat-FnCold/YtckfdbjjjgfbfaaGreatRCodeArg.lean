import Derived.Test.YtckfdbjjjgfbfaaGreatRPhr
import Derived.Test.YtckfdbjjjgfbfaaGreatRCells
import Derived.Test.YtckfdbjjjgfbfaaGreatRDrawCpu
import Derived.Test.YtckfdbjjjgfbfaaGreatRStepD
import Derived.Deep.RegionHeld3
import Derived.StillTailTactics
import Derived.IntWalk
import Derived.Test.YtckfdbjjjgfbfaaGreatROpC
import Derived.Test.YtckfdbjjjgfbfaaGreatRRegFnCold
import Derived.Test.YtckfdbjjjgfbfaaGreatRImplRun
import Derived.Test.YtckfdbjjjgfbfaaGreatRCycRow
import Derived.Deep.DeepCutAuto
import Derived.ProofKit
import Derived.OpenShut
set_option linter.unusedVariables false
set_option linter.unusedSimpArgs false
set_option maxRecDepth 100000
set_option maxHeartbeats 4000000
namespace Go.Proofs.YtckfdbjjjgfbfaaGreat
open Go.RowKit
open Go.ChangeShapes Go.WideShapes Go.RowKit
def dWA (n₀ B:Nat) (a:Option Addr) (len cap:Nat) (z:List Int) (w:World) (e:Ending) (w':World):Prop:=
 ∃ (v:Value) (L:List Nat) (s:Nat×Int),L.length<=8192/\e=.returned (ramV v)/\OwnB w' w.heap.size v L/\Drawn n₀ B a len cap z s w'/\w.grownBy w' (some B)
def ramL4:List Int:=[256,512,1024,4096]
theorem aDB (i:Nat) (h:i < 4):∃ d:Nat,ramL4[i]?.getD 0=(d:Int)/\ramN d=true:=by
 unfold ramL4;rcases i with _|_|_|_|i
 ·exact⟨256,rfl,rfl⟩
 ·exact⟨512,rfl,rfl⟩
 ·exact⟨1024,rfl,rfl⟩
 ·exact⟨4096,rfl,rfl⟩
 ·omega
theorem fFB {d:Nat} (h:ramN d=true):newL (d:Int)=List.replicate d 0:=by
 unfold newL ramI;rw[if_pos (by simp[h])];simp
theorem yNA {w E:World} {B:Nat} {u:Value} (hb:Below w.heap.size w E) (h:w.cell? ⟨B,0,none⟩=some u/\B < w.heap.size):E.cell? ⟨B,0,none⟩=some u/\B < E.heap.size:=
 ⟨bJA hb h.1 h.2,Nat.lt_of_lt_of_le h.2 hb.size⟩
theorem aIB {w:World} {B C k:Nat} {u v:Value} (hne:C≠B) (h:w.cell? ⟨B,0,none⟩=some u/\B < w.heap.size):(w.setCell ⟨C,k,none⟩ v).cell? ⟨B,0,none⟩=some u/\B < (w.setCell ⟨C,k,none⟩ v).heap.size:=
 ⟨by rw[World.cell?_setCell_far];exact h.1;exact hne,by simpa using h.2⟩
theorem xJA {w E:World} {B C:Nat} {u:Value} (hg:w.grownBy E (some C)) (hne:B≠C) (h:w.cell? ⟨B,0,none⟩=some u/\B < w.heap.size):E.cell? ⟨B,0,none⟩=some u/\B < E.heap.size:=
 ⟨hg.cell h.1 (by intro e;simp at e;exact hne e),Nat.lt_of_lt_of_le h.2 hg.size⟩
theorem tBB (n₀ B:Nat) (a:Option Addr) (len cap:Nat) (z:List Int) (s:Nat×Int) (w:World) (h:Drawn n₀ B a len cap z s w) :
  Calls Tryz.prog 66 #[.pointer (some ⟨B,0,none⟩)] w (dWA n₀ B a len cap z w):=by
 have e4:=h.lt;have bx:=BoxN.new w 30 #[.slice none 0 0];have g0:=World.grownBy_alloc w (.cells #[.slice none 0 0] 30) (some B);go_enter Tryz.func66,Tryz.ntmps66;go_wp2_with fail;have K:=gJA (w.alloc (.cells #[.slice none 0 0] 30)) ramL4 3;rw[World.size_alloc] at K;refine (xGA n₀ B a len cap z s (w.heap.size+1) 4 4 ramL4 _ ((h.alloc _).alloc _) dQ dQ dQ xQ (fun i hi=>K i hi)).mono ?_;rintro e E ⟨rfl,hd1,hg1⟩;obtain⟨d,hd,n3⟩:=aDB (bCA z len s ((4:Nat):Int)).toNat (by have:=kHA z len s 4 dQ;show (bCA z len s 4).toNat < 4;omega);rw[hd];have a4:=((bx.below ((Below.refl _ _).alloc (Nat.le_refl _) _)).grown hg1 dQ);have c7:=sAA g0 (sAA (World.grownBy_alloc _ _ (some B)) hg1);generalize oBA len s ((4:Nat):Int)=U at hd1;clear bx g0 hg1 K hd;have CN:=fun w=>dTA (d:Int) w
 rw[fFB n3] at CN;go_wp2_with fail;refine (CN _).mono ?_;rintro e Q ⟨v2,rfl,o2,b2⟩;obtain⟨a2,c2,rfl⟩:=o2.len;rw[List.length_replicate] at o2 ⊢;have s6:=eBA n3;obtain⟨g2,q2,j8,_⟩:=o2.cells (by rw[List.length_replicate];omega);rw[List.length_replicate] at j8;simp only[Value.slice.injEq] at j8;obtain⟨rfl,_,rfl⟩:=j8;have r3:=((World.ownsRow.lt o2.2) g2 rfl);have b5:=hd1.below b2;have d4:=sAA c7 (mCA b2);have R:=a4.below b2;have d3:Below Q.heap.size Q (Q.alloc (.cells #[.slice (some ⟨g2,0,none⟩) d c2] 30)):=(Below.refl _ _).alloc (Nat.le_refl _) _;have p3:BoxN (Q.alloc (.cells #[.slice (some ⟨g2,0,none⟩) d c2] 30)) Q.heap.size 30 #[.slice (some ⟨g2,0,none⟩) d c2]:=BoxN.new _ _ _;have j0:=b5.below d3;have i9:=sAA d4 (mCA d3);have i3:=R.below d3;have o3:=o2.below d3;have hs1:=c7.size;have n7:=a4.lt;have k9:=b2.size;clear hd1 c7 a4 b5 d4 R d3 b2 o2 CN;go_wp2_with fail;refine (qQA n₀ B a len cap z U 60 dQ _ j0).mono ?_;rintro e w4 ⟨v4,X,s4,hX,rfl,o4,hd4,hg4⟩;obtain⟨g4,q4,rfl,_⟩:=o4.cells dQ;have k6:=((World.ownsRow.lt o4.2) g4 rfl);rw[World.size_alloc] at o4 k6;have p4:=p3.grown hg4 dQ;have n0:=i3.grown hg4 dQ;have k7:=o3.grown hg4 dQ;have m5:=sAA i9 hg4;have r0:=hg4.size;rw[World.size_alloc] at r0;clear p3 i3 o3 i9 hg4 j0;have q0:=hQ o4;have HX:=hQ o4.row.2;have H0:=hQ (And.intro p4 (And.intro n0 (And.intro k7 (And.intro hd4 m5))));have s8:60<=X.length/\X.length<=180:=dQ;clear o4 p4 n0 k7 hd4 m5 hX;go_wp2;go_loopw [5] (fun i wr=>∃ (j:Nat) (M:List Nat),j<=d/\i=.int .i64 j/\Hid (M.length=d/\OwnB wr E.heap.size (.slice (some ⟨g2,0,none⟩) d c2) M/\OwnB wr (Q.heap.size+1) (.slice (some ⟨g4,0,none⟩) X.length q4) X/\BoxN wr Q.heap.size 30 #[.slice (some ⟨g2,0,none⟩) d c2]/\BoxN wr w.heap.size 30 #[.slice none 0 0]/\Drawn n₀ B a len cap z s4 wr/\w.grownBy wr (some B))) (fun i _=>d - (intOf i).toNat)
 case atStart=>exact⟨0,List.replicate d 0,Nat.zero_le _,rfl,hQ ⟨List.length_replicate,H0.out.2.2.1,q0.out,H0.out.1,H0.out.2.1,H0.out.2.2.2.1,H0.out.2.2.2.2⟩⟩
 case round=>
  obtain⟨j,M,hj,rfl,HI⟩:=hrel;obtain⟨hM,oM,oX,pM,bM,i5,i2⟩:=HI.out;have cM:=pM.cell 0 (.slice (some ⟨g2,0,none⟩) d c2) rfl;by_cases hp:j < d
  ·obtain⟨q,hq⟩:∃ q,j / 97=q:=⟨_,rfl⟩;obtain⟨k,hk⟩:∃ k,(j*7+q) % X.length=k:=⟨_,rfl⟩;have r8:q<=4096:=dQ;have m9:k < X.length:=kQe;have y1:IntKind.i64.wrap ((j:Int)*7)=(j:Int)*7:=IntWalk.i64_in _ dQ;have y2:(j:Int).tdiv 97=(q:Int):=by rw[Int.tdiv_eq_ediv_of_nonneg dQ];omega
   have y3:IntKind.i64.wrap (q:Int)=(q:Int):=IntWalk.i64_in _ dQ;have y4:IntKind.i64.wrap ((j:Int)*7+(q:Int))=(j:Int)*7+(q:Int):=IntWalk.i64_in _ dQ;have y5:((j:Int)*7+(q:Int)).tmod (X.length:Int)=(k:Int):=by
    rw[show (j:Int)*7+(q:Int)=((j*7+q:Nat):Int) by omega,bHA _ _ dQ,hk]
   have y6:IntKind.i64.wrap (k:Int)=(k:Int):=IntWalk.i64_in _ dQ;have y7:¬ (X.length:Int)=0:=dQ;have y8:((X.length:Int)==0)=false:=beq_eq_false_iff_ne.2 dQ;have y9:¬ X.length=0:=dQ;have ij:(0:Int)<=(j:Int)/\(j:Int) < (d:Int):=dQ;have ik:(0:Int)<=(k:Int)/\(k:Int) < (X.length:Int):=dQ;obtain⟨j9,l7⟩:=aGA oM (k:=j) dQ;obtain⟨l8,_⟩:=aGA oX (k:=k) m9;obtain⟨y,hy⟩:∃ y,M.getD j 0=y:=⟨_,rfl⟩;obtain⟨x,hx⟩:∃ x,X.getD k 0=x:=⟨_,rfl⟩;have o9:x < 256:=by rw[<-hx];exact oX.1 k m9
   rw[hy] at j9;rw[hx] at l8;have l5:=hQ oM;have m6:=hQ oX;clear hy hx hk hq oM oX;go_wp2_with fail;go_still_tail 15,gQ;change wpList _ _ _ _ _ wr.drew;have l6:wr.drew.cell? ⟨g2,j,none⟩=some (.int .u8 (y:Int)):=j9;have n4:wr.drew.frozen? ⟨g2,j,none⟩=false:=l7;have i4:Hid (OwnB wr.drew E.heap.size (.slice (some ⟨g2,0,none⟩) d c2) M):=hQ l5.out;have j6:Hid (OwnB wr.drew (Q.heap.size+1) (.slice (some ⟨g4,0,none⟩) X.length q4) X):=hQ m6.out;have m4:=pM.drew;have i7:=bM.drew;have e0:Drawn n₀ B a len cap z s4 wr.drew:=i5;have e3:w.grownBy wr.drew (some B):=sAA i2 (mCA (Below.refl _ _).drew);clear j9 l7 l5 m6 pM bM i5 i2 l8 cM HI y1 y2 y3 y4 y5 y6 y7 y8;generalize wr.drew=w5 at l6 n4 i4 j6 m4 i7 e0 e3 ⊢;obtain⟨l9,b1⟩:=qLA (k:=j) i4.out hM.symm o9;have n8:=hQ l9;have e9:=hQ b1;clear l9 b1 i4;go_wp2;go_roundw
   case rel=>
    exact⟨j+1,M.set j x,dQ,bQe,hQ ⟨by rw[List.length_set];exact hM,n8.out,zEA j6.out e9.out (fun t ht=>by simp[Value.ownBlock] at ht;omega),m4.grown e9.out dQ,i7.grown e9.out dQ,e0.grown e9.out (fun t ht=>by simp at ht;omega),hKA e3 e9.out (fun t ht=>by simp at ht;omega)⟩⟩
   case measure=>simp[intOf];omega
  ·obtain rfl:j=d:=dQ;have CF:=fun (addr:Nat) (ha:addr < 65536) W hr hx=>tPA (some ⟨g2,0,none⟩) c2 addr M (some ⟨g4,0,none⟩) q4 X ha W hr hx wQc
   rw[hM] at CF;obtain⟨P,r1,s7⟩:∃ P:Nat,bCA z len s4 4096=(P:Int)/\P < 4096:=by
    obtain⟨u0,u1⟩:=kHA z len s4 4096 dQ;exact⟨(bCA z len s4 4096).toNat,dQ,dQ⟩
   have CB:=fun W hd=>bIA n₀ B a len cap z s4 4096 W hd
   rw[r1] at CB;generalize oBA len s4 4096=s5 at CB;have y1:IntKind.u16.wrap (P:Int)=(P:Int):=by rw[IntKind.wrap_u16];omega
   have S0:wr.drew.cell? ⟨Q.heap.size,0,none⟩=some (.slice (some ⟨g2,0,none⟩) j c2)/\Q.heap.size < wr.drew.heap.size:=⟨cM,pM.lt⟩;have o5:OwnB wr.drew E.heap.size (.slice (some ⟨g2,0,none⟩) j c2) M:=oM;have p5:OwnB wr.drew (Q.heap.size+1) (.slice (some ⟨g4,0,none⟩) X.length q4) X:=oX;have i7:=bM.drew;have e0:Drawn n₀ B a len cap z s4 wr.drew:=i5;have e3:w.grownBy wr.drew (some B):=sAA i2 (mCA (Below.refl _ _).drew);have r6:=i2.size;clear pM bM i5 i2 oM oX HI;go_wp2_with fail;go_region_held3 (fun w'=>w'.cell? ⟨Q.heap.size,0,none⟩=some (.slice (some ⟨g2,0,none⟩) j c2)/\Q.heap.size < w'.heap.size)
    (((try dsimp only);(first|(with_reducible exact S0)|(exact xJA b1 dQ S0)|(exact yNA d6 (xJA b1 dQ S0))|(exact aIB dQ (yNA d6 (xJA b1 dQ S0))))))
    (first|(go_at_call 35;with_reducible refine (CB _ e0).mono ?_;rintro e w5 ⟨rfl,hd5,b1⟩)|(go_at_call 69;with_reducible refine (CF P dQ _ (o5.grown b1 dQ).row.2 (p5.grown b1 dQ).row.2).mono ?_;rintro e w6 ⟨v6,rfl,o6,d6⟩;obtain⟨a6,c6,rfl⟩:=o6.len;have rR:=((i7.grown b1 dQ).below d6);have cR:=rR.cell 0 (.slice none 0 0) rfl;have fR:=rR.frozen 0))
   have o8:=sAA (sAA e3 b1) (mCA (row:=some B) d6);have q8:=hd5.below d6;have s9:=b1.size;have d8:=(rR.set 0 (.slice a6 (fillL M P X).length c6)).cell 0 (.slice a6 (fillL M P X).length c6) rfl;go_wp2;refine bodyPost_ret (v:=ramV (.slice a6 (fillL M P X).length c6)) (by simp[results,Tryz.results66,go_sem,d8]) rfl ⟨_,fillL M P X,s5,?_,rfl,?_,?_,?_⟩
   ·unfold fillL;split
    ·rw[iMA];omega
    ·simp
   ·exact zEA (OwnB.base o6 dQ) (hGA _ _ _) (fun t ht=>by have:=((World.ownsRow.lt o6.2) t ht).1;omega)
   ·exact q8.setCell e4 _
   ·exact wGA o8 (Nat.le_refl _) _
def anyL:List Int:=[0,255,257,768,8192]
theorem eGB (i:Nat):∃ d:Nat,anyL[i]?.getD 0=(d:Int)/\d<=8192:=by
 unfold anyL;rcases i with _|_|_|_|_|i
 ·exact⟨0,rfl,dQ⟩
 ·exact⟨255,rfl,dQ⟩
 ·exact⟨257,rfl,dQ⟩
 ·exact⟨768,rfl,dQ⟩
 ·exact⟨8192,rfl,dQ⟩
 ·exact⟨0,rfl,dQ⟩
theorem eAB (n₀ B:Nat) (a:Option Addr) (len cap:Nat) (z:List Int) (s:Nat×Int) (w:World) (h:Drawn n₀ B a len cap z s w) :
  Calls Tryz.prog 33 #[.pointer (some ⟨B,0,none⟩)] w (dWA n₀ B a len cap z w):=by
 have e4:=h.lt;have bx:=BoxN.new w 30 #[.slice none 0 0];have g0:=World.grownBy_alloc w (.cells #[.slice none 0 0] 30) (some B);go_enter Tryz.func33,Tryz.ntmps33;go_wp2_with fail;refine (eJA n₀ B a len cap z s 10 _ (h.alloc _)).mono ?_;rintro e E ⟨rfl,hd1,hg1⟩;have a4:=bx.grown hg1 dQ;have c7:=sAA g0 hg1;have n7:=a4.lt;clear bx g0 hg1;cases ho:(bCA z len s 10==0) with
 | true=>
  generalize oBA len s 10=U at hd1;go_wp2_with fail;have K:=gJA E anyL 3;refine (xGA n₀ B a len cap z U E.heap.size 5 5 anyL _ (hd1.alloc _) dQ dQ (by have:=hd1.lt;omega) xQ (fun i hi=>K i hi)).mono ?_;rintro e Q ⟨rfl,b5,hg2⟩;obtain⟨d,hd,q6⟩:=eGB (bCA z len U ((5:Nat):Int)).toNat
  rw[hd];have R:=((a4.below ((Below.refl _ _).alloc (Nat.le_refl _) _)).grown hg2 dQ);have d4:=sAA c7 (sAA (World.grownBy_alloc _ _ (some B)) hg2);have k9:=hg2.size;generalize oBA len U ((5:Nat):Int)=s2 at b5;clear a4 c7 hg2 K hd hd1;have r7:=fun w=>makeB d dQ w
  obtain⟨V,hV⟩:∃ V,Value.slice (some ⟨Q.heap.size,0,none⟩) d d=V:=⟨_,rfl⟩;have r2:=R.lt;have i3:=R.below ((Below.refl _ _).alloc (Nat.le_refl _) (.cells (Array.replicate d (Value.int .u8 0)) 5));have cR:=i3.cell 0 (.slice none 0 0) rfl;have fR:=i3.frozen 0;have bs:=R.set 0 (.slice (some ⟨Q.heap.size,0,none⟩) d d);have l0:(Q.setCell ⟨w.heap.size,0,none⟩ (.slice (some ⟨Q.heap.size,0,none⟩) d d)).heap.size=Q.heap.size:=xQ;have d8:=(bs.below ((Below.refl _ _).alloc (Nat.le_refl _) (.cells (Array.replicate d (Value.int .u8 0)) 5))).cell 0 (.slice (some ⟨Q.heap.size,0,none⟩) d d) rfl;have o3:OwnB ((Q.setCell ⟨w.heap.size,0,none⟩ (.slice (some ⟨Q.heap.size,0,none⟩) d d)).alloc (.cells (Array.replicate d (Value.int .u8 0)) 5)) Q.heap.size (.slice (some ⟨Q.heap.size,0,none⟩) d d) (List.replicate d 0):=by
   have:=tKA (Q.setCell ⟨w.heap.size,0,none⟩ (.slice (some ⟨Q.heap.size,0,none⟩) d d)) (List.replicate d 0) dQh (fun i hi=>qQg);rw[l0] at this;simp only[List.length_replicate,List.map_replicate,u8V,List.toArray_replicate] at this;exact this
  have j0:=(b5.setCell (p:=⟨w.heap.size,0,none⟩) e4 (.slice (some ⟨Q.heap.size,0,none⟩) d d)).alloc (.cells (Array.replicate d (Value.int .u8 0)) 5);have i9:=sAA (wGA d4 (p:=⟨w.heap.size,0,none⟩) (Nat.le_refl _) (.slice (some ⟨Q.heap.size,0,none⟩) d d)) (World.grownBy_alloc _ (.cells (Array.replicate d (Value.int .u8 0)) 5) (some B));have p7:=hQ o3;clear o3 R d4 b5 hV bs l0;go_wp2;refine bodyPost_ret (v:=ramV (.slice (some ⟨Q.heap.size,0,none⟩) d d)) (by simp[results,Tryz.results33,go_sem,d8]) rfl ⟨_,List.replicate d 0,s2,by rw[List.length_replicate];exact q6,rfl,?_,j0,i9⟩;exact OwnB.base p7.out dQ
 | false=>
  generalize oBA len s 10=U at hd1;go_wp2_with fail;refine (tBB n₀ B a len cap z U _ hd1).mono ?_;rintro e Q ⟨v2,L,s2,hL,rfl,o2,b5,hg2⟩;obtain⟨a2,c2,rfl⟩:=o2.len;have R:=a4.grown hg2 dQ;have d4:=sAA c7 hg2;have cR:=R.cell 0 (.slice none 0 0) rfl;have fR:=R.frozen 0;have d8:=(R.set 0 (.slice a2 L.length c2)).cell 0 (.slice a2 L.length c2) rfl;have n2:=hQ o2;clear a4 c7 hg2 hd1 o2;go_wp2;refine bodyPost_ret (v:=ramV (.slice a2 L.length c2)) (by simp[results,Tryz.results33,go_sem,d8]) rfl ⟨_,L,s2,hL,rfl,?_,?_,?_⟩
  ·exact zEA (OwnB.base n2.out dQ) (hGA _ _ _) (fun t ht=>by have:=((World.ownsRow.lt n2.out.2) t ht).1;omega)
  ·exact b5.setCell e4 _
  ·exact wGA d4 (Nat.le_refl _) _
def eDB (w:World) (e:Ending) (w':World):Prop:=
 ∃ (v:Value) (L:List Nat),L.length<=8192/\e=.returned (ramV v)/\OwnB w' w.heap.size v L/\Below w.heap.size w w'
theorem rPA (n₀:Nat) (a:Option Addr) (len cap:Nat) (z:List Int) (w:World) (hc:uDA n₀ w a len z) (hn:n₀<=w.heap.size) :
  Calls Tryz.prog 14 #[.slice a len cap] w (eDB w):=by
 have d0:Below w.heap.size w (w.alloc (.cells #[.slice none 0 0] 30)):=(Below.refl _ _).alloc (Nat.le_refl _) _;have bx:=BoxN.new w 30 #[.slice none 0 0];have k3:=hc.kept (d0.mono hn);have m2:n₀<=(w.alloc (.cells #[.slice none 0 0] 30)).heap.size:=Nat.le_trans hn d0.size;have hst:=k3.startS (cap:=cap) m2;rw[World.size_alloc] at hst;go_enter Tryz.func14,Tryz.ntmps14;go_wp2_with fail;refine (fGB n₀ a len cap z _ k3).mono ?_;rintro e E ⟨rfl,rfl⟩;have d1:=d0.alloc xQ (.cells #[.slice a len cap,.int .i64 0,.int .i64 (uEA z len)] 109);have a4:=bx.below ((Below.refl _ _).alloc (Nat.le_refl _) (.cells #[.slice a len cap,.int .i64 0,.int .i64 (uEA z len)] 109));rw[World.size_alloc];generalize (w.alloc (.cells #[.slice none 0 0] 30)).alloc (.cells #[.slice a len cap,.int .i64 0,.int .i64 (uEA z len)] 109)=E at hst d1 a4 ⊢;have e4:=hst.lt;clear bx d0 k3 m2;go_wp2_with fail;refine (eAB n₀ _ a len cap z _ _ hst).mono ?_;rintro e Q ⟨v2,L,s2,hL,rfl,o2,b5,hg2⟩;obtain⟨a2,c2,rfl⟩:=o2.len;have R:=a4.grown hg2 dQ;have d2:Below w.heap.size w Q:=d1.trans (jLA hg2 dQ e4);have cR:=R.cell 0 (.slice none 0 0) rfl;have fR:=R.frozen 0;have d8:=(R.set 0 (.slice a2 L.length c2)).cell 0 (.slice a2 L.length c2) rfl;have HO:=hQ o2;have k9:=d1.size;clear o2 a4 hst d1 hg2 b5;go_wp2;refine bodyPost_ret (v:=ramV (.slice a2 L.length c2)) (by simp[results,Tryz.results14,go_sem,d8]) rfl ⟨_,L,hL,rfl,?_,d2.setCell (Nat.le_refl _) _⟩;exact zEA (OwnB.base HO.out dQ) (hGA _ _ _) (fun t ht=>by have:=((World.ownsRow.lt HO.out.2) t ht).1;omega)
theorem OwnB.cap {w:World} {base:Nat} {a:Option Addr} {n c:Nat} {L:List Nat} (h:OwnB w base (.slice a n c) L):n<=c:=by
 rcases h.2.2 with ⟨hv,_⟩|⟨g,cp,s3,hv,_,_,h1,_⟩
 ·simp only[Value.slice.injEq] at hv;omega
 ·simp only[Value.slice.injEq] at hv;omega
theorem RowB.take {w:World} {a:Option Addr} {L:List Nat} (h:RowB w a L) (k:Nat) (hk:k<=L.length):RowB w a (L.take k):=by
 have hl:(L.take k).length=k:=qQ;have hg:∀ i,i < k->(L.take k).getD i 0=L.getD i 0:=fun i hi=>by simp[List.getD,List.getElem?_take,hi]
 refine⟨fun i hi=>?_,fun h0=>?_⟩
 ·rw[hl] at hi;rw[hg i hi];exact h.1 i dQ
 ·rw[hl] at h0;obtain⟨g,o,rfl,hgl,hc⟩:=h.2 dQ;refine⟨g,o,rfl,hgl,fun i hi=>?_⟩;rw[hl] at hi;rw[hg i hi];exact hc i dQ
theorem RowB.grown {w w':World} {a:Option Addr} {L:List Nat} {base B:Nat} {c:Nat} (h:OwnB w base (.slice a L.length c) L) (hg:w.grownBy w' (some B)) (hB:B < base):RowB w' a L:=(h.grown hg hB).row.2
theorem zKA (a:Option Addr) (len cap:Nat) (w:World) :
  Calls Tryz.prog 6 #[.slice a len cap] w fun e w'=>e=.returned (.bool (decide ((1048576:Int) < len)))/\w=w':=by
 go_enter Tryz.func6,Tryz.ntmps6;go_wp2;go_ret;exact⟨rfl,rfl⟩
theorem jCB {c:CpuN} {L:List Nat} (hr:ramN L.length=true) (hi:c.I=true):(aFA c L [⟨0,false⟩] 1).int.jam=jamsN L c.PC:=by
 have o0:runOk L [⟨0,false⟩] 1:=⟨hr,iQ,iQ,iQ⟩;unfold aFA;rw[if_pos o0];show (wBA [⟨0,false⟩] 1 0 (hCA c L)).jam=_;rw[pFA];show (if (false:Bool)=true then _ else wBA [⟨0,false⟩] 0 1 (unitN [⟨0,false⟩] 0 (hCA c L))).jam=_;rw[if_neg Bool.false_ne_true];show (unitN [⟨0,false⟩] 0 (hCA c L)).jam=_;unfold unitN;have e1:kBA [⟨0,false⟩] 0 true=false:=iQ;have e2:(hCA c L).cpu.I=true:=hi;rw[e1,e2,if_neg Bool.false_ne_true,if_neg xQ];show (if jamsN L c.PC=true then ({ hCA c L with jam:=true }:ShotN) else (hCA c L).on (stepN c L)).jam=_;split
 ·rename_i h;rw[h]
 ·rename_i h;exact (Bool.eq_false_iff.2 h).symm
theorem jBB (w:World):RowG encEv (w.alloc (.cells #[.int .i64 0,.bool false] 47)) (some ⟨w.heap.size,0,none⟩) [⟨0,false⟩]:=fun _=>by
 refine⟨w.heap.size,0,rfl,xQ,fun i hi k hk=>?_⟩;have h0:i=0:=by have:i < 1:=hi;omega
 subst h0;have q7:k=0\/k=1:=by have:k < 2:=hk;omega
 have hb:=BoxN.new w 47 #[.int .i64 0,.bool false];rcases q7 with rfl|rfl
 ·exact hb.cell 0 _ rfl
 ·exact hb.cell 1 _ rfl
theorem hZA (HR:lNA) (HP:mPA) (HJ:jCA) (a:Option Addr) (len cap:Nat) (z:List Int) (w:World) (hc:uDA w.heap.size w a len z) (hl:len<=1048576) :
  Calls Tryz.prog 4 #[.slice a len cap] w fun e w'=>e=.returned (.bool true)/\Below w.heap.size w w':=by
 have j4:decide ((1048576:Int) < len)=false:=qQ;go_enter Tryz.func4,Tryz.ntmps4;go_wp2_with fail;refine (zKA _ _ _ _).mono ?_;rintro e w' ⟨rfl,rfl⟩;rw[j4];clear j4;go_wp2_with fail;refine (rPA w.heap.size a len cap z w hc (Nat.le_refl _)).mono ?_;rintro e E ⟨v1,L,hL,rfl,o1,d1⟩;have U:=SegB.of o1;obtain⟨l,r,rfl,h1c⟩:=U.len;have r9:=hQ d1.size;have HL:=hQ hL;have i6:=hQ h1c;have CO:=fun W=>qBA l L.length r W
 clear o1 hc hl hL h1c;have y1:BoxN (E.alloc (.cells #[.slice l L.length r] 30)) E.heap.size 30 #[.slice l L.length r]:=by
  have h:=BoxN.new E 30 #[.slice l L.length r];simpa only[World.size_alloc] using h
 have a2:=alw E (.cells #[.slice l L.length r] 30);have b3:=bstep d1 a2;replace U:=U.below a2;clear a2;have z4:Hid ((E.alloc (.cells #[.slice l L.length r] 30)).heap.size=E.heap.size+1):=hQ tQ;cases hr:ramN L.length with
 | false=>
  have k2:∀ W,RowB W l L->Calls Tryz.prog 15 #[ramV (.slice l L.length r)] W fun e w'=>e=.returned (.agg (zQ []).toArray)/\Below W.heap.size W w':=fun W h=>by
   have:=aKA l r L W h;have hy:coldN L=cpu0:=by unfold coldN;rw[if_neg (by rw[hr];exact Bool.false_ne_true)]
   rw[hy] at this;exact this
  rw[hr] at CO;clear hr;have c0:(Instr.loadAt 30 (.pointer (some ⟨E.heap.size,0,none⟩))).run Tryz.prog (E.alloc (.cells #[.slice l L.length r] 30))=.ok (.agg #[.slice l L.length r]) (E.alloc (.cells #[.slice l L.length r] 30)):=iAA y1 0 #[.slice l L.length r] gQ gQ gQ;replace c0:=hQ c0;clear d1;replace y1:=hQ y1;replace U:=hQ U;replace b3:=hQ b3;go_wp2_with ((with_reducible refine cAA c0.out ?_ ?_;focus (exact⟨rfl,_,rfl,rfl⟩)));replace y1:=y1.out;replace U:=U.out;replace b3:=b3.out;clear c0;refine (k2 _ U.row).mono ?_;rintro e w6 ⟨rfl,d7⟩;replace d7:Below (E.alloc (.cells #[.slice l L.length r] 30)).heap.size (E.alloc (.cells #[.slice l L.length r] 30)) w6:=d7;have b8:=bstep b3 d7;have p9:=y1.below d7;have H:=U.below d7;have p1:=hQ d7.size;clear b3 y1 U d7;have a7:BoxN (w6.alloc (.cells (zQ []).toArray 28)) w6.heap.size 28 (zQ []).toArray:=by
   have h:=BoxN.new w6 28 (zQ []).toArray;simpa only[World.size_alloc] using h
  have b7:=alw w6 (.cells (zQ []).toArray 28);have a5:=bstep b8 b7;replace p9:=p9.below b7;replace H:=H.below b7;clear b7;have p6:Hid ((w6.alloc (.cells (zQ []).toArray 28)).heap.size=w6.heap.size+1):=hQ tQ;have T:(Instr.loadAt 30 (.pointer (some ⟨E.heap.size,0,none⟩))).run Tryz.prog (w6.alloc (.cells (zQ []).toArray 28))=.ok (.agg #[.slice l L.length r]) (w6.alloc (.cells (zQ []).toArray 28)):=iAA p9 0 #[.slice l L.length r] gQ gQ gQ;replace T:=hQ T;clear b8;replace p9:=hQ p9;replace a7:=hQ a7;replace H:=hQ H;replace a5:=hQ a5;go_wp2_with ((with_reducible refine cAA T.out ?_ ?_;focus (exact⟨rfl,_,rfl,rfl⟩)));replace p9:=p9.out;replace a7:=a7.out;replace H:=H.out;replace a5:=a5.out;clear T;refine (CO _).mono ?_;rintro e a3 ⟨rfl,d18⟩;replace d18:Below (w6.alloc (.cells (zQ []).toArray 28)).heap.size (w6.alloc (.cells (zQ []).toArray 28)) a3:=d18;have a9:=bstep a5 d18;have b0:=p9.below d18;have a0:=a7.below d18;have b4:=H.below d18;have o7:=hQ d18.size;clear a5 p9 a7 H d18;have a8:(Instr.loadAt 28 (.pointer (some ⟨w6.heap.size,0,none⟩))).run Tryz.prog a3=.ok (.agg (zQ []).toArray) a3:=iAA a0 0 (zQ []).toArray gQ gQ gQ;replace a8:=hQ a8;replace b0:=hQ b0;replace a0:=hQ a0;replace b4:=hQ b4;replace a9:=hQ a9;go_wp2_with ((with_reducible refine cAA a8.out ?_ ?_;focus (exact⟨rfl,_,rfl,rfl⟩)));replace b0:=b0.out;replace a0:=a0.out;replace b4:=b4.out;replace a9:=a9.out;go_ret;exact⟨rfl,a9⟩
 | true=>
  have e6:∃ y,coldN L=y:=⟨_,rfl⟩;obtain⟨y,hy⟩:=e6;obtain⟨x0,j1⟩:∃ x,peekL L 65532=x:=⟨_,rfl⟩;obtain⟨y0,e6⟩:∃ x,peekL L 65533=x:=⟨_,rfl⟩;have m3:x0 < 256:=by rw[<-j1];exact lDA U.row 65532
  have k8:y0 < 256:=by rw[<-e6];exact lDA U.row 65533
  have j2:y=⟨0,0,0,253,x0+256*y0,false,false,false,true,false,false⟩:=by rw[<-hy,<-j1,<-e6];unfold coldN;rw[if_pos hr]
  have n6:y.ok:=by rw[<-hy];exact lFB U.row
  have j5:y.PC=x0+256*y0:=by rw[j2]
  have k1:(aFA y L [⟨0,false⟩] 1).int.jam=jamsN L (x0+256*y0):=by rw[jCB hr (by rw[j2]),j5]
  obtain⟨s,hs⟩:∃ s,(aFA y L [⟨0,false⟩] 1).int=s:=⟨_,rfl⟩;rw[hs] at k1;have k2:∀ W,RowB W l L->Calls Tryz.prog 15 #[ramV (.slice l L.length r)] W fun e w'=>e=.returned (cpuV y)/\Below W.heap.size W w':=fun W h=>by
   have:=aKA l r L W h;rw[hy] at this;exact this
  have q5:∀ (g:Nat) (W:World),RowB W l L->RowG encEv W (some ⟨g,0,none⟩) [⟨0,false⟩]->Calls Tryz.prog 8 #[cpuV y,ramV (.slice l L.length r),.slice (some ⟨g,0,none⟩) 1 1,.int .i64 1] W (Shown W s):=fun g W h1 h2=>by
   have:=HR y l r L (some ⟨g,0,none⟩) 1 [⟨0,false⟩] 1 W n6 (by have:=HL.out;omega) i6.out iQ iQ h1 h2;rw[hs] at this;exact this
  have q3:∀ W,RowB W l L->Calls Tryz.prog 16 #[ramV (.slice l L.length r),.int .u16 65532] W fun e w'=>e=.returned (.int .u8 (x0:Int))/\Below W.heap.size W w':=fun W h=>by
   have:=HP l r 65532 L W iQ (by have:=HL.out;omega) i6.out h;rw[j1] at this;exact this
  have q1:∀ W,RowB W l L->Calls Tryz.prog 16 #[ramV (.slice l L.length r),.int .u16 65533] W fun e w'=>e=.returned (.int .u8 (y0:Int))/\Below W.heap.size W w':=fun W h=>by
   have:=HP l r 65533 L W iQ (by have:=HL.out;omega) i6.out h;rw[e6] at this;exact this
  have n9:∀ W,RowB W l L->Calls Tryz.prog 17 #[ramV (.slice l L.length r),.int .u16 ((x0+256*y0:Nat):Int)] W fun e w'=>e=.returned (.bool s.jam)/\Below W.heap.size W w':=fun W h=>by
   rw[k1];exact HJ l r (x0+256*y0) L W dQ (by have:=HL.out;omega) i6.out h
  have p8:=hQ j2;have p0:=hQ m3;have q9:=hQ k8;rw[hr] at CO;clear hr hy j1 e6 m3 k8 j2 n6 j5 k1 hs;have c0:(Instr.loadAt 30 (.pointer (some ⟨E.heap.size,0,none⟩))).run Tryz.prog (E.alloc (.cells #[.slice l L.length r] 30))=.ok (.agg #[.slice l L.length r]) (E.alloc (.cells #[.slice l L.length r] 30)):=iAA y1 0 #[.slice l L.length r] gQ gQ gQ;replace c0:=hQ c0;clear d1;replace y1:=hQ y1;replace U:=hQ U;replace b3:=hQ b3;go_wp2_with ((with_reducible refine cAA c0.out ?_ ?_;focus (exact⟨rfl,_,rfl,rfl⟩)));replace y1:=y1.out;replace U:=U.out;replace b3:=b3.out;clear c0;refine (k2 _ U.row).mono ?_;rintro e w6 ⟨rfl,d7⟩;replace d7:Below (E.alloc (.cells #[.slice l L.length r] 30)).heap.size (E.alloc (.cells #[.slice l L.length r] 30)) w6:=d7;have b8:=bstep b3 d7;have p9:=y1.below d7;have H:=U.below d7;have p1:=hQ d7.size;clear b3 y1 U d7;have a7:BoxN (w6.alloc (.cells (cQ y []).toArray 28)) w6.heap.size 28 (cQ y []).toArray:=by
   have h:=BoxN.new w6 28 (cQ y []).toArray;simpa only[World.size_alloc] using h
  have b7:=alw w6 (.cells (cQ y []).toArray 28);have a5:=bstep b8 b7;replace p9:=p9.below b7;replace H:=H.below b7;clear b7;have p6:Hid ((w6.alloc (.cells (cQ y []).toArray 28)).heap.size=w6.heap.size+1):=hQ tQ;have T:(Instr.loadAt 30 (.pointer (some ⟨E.heap.size,0,none⟩))).run Tryz.prog (w6.alloc (.cells (cQ y []).toArray 28))=.ok (.agg #[.slice l L.length r]) (w6.alloc (.cells (cQ y []).toArray 28)):=iAA p9 0 #[.slice l L.length r] gQ gQ gQ;replace T:=hQ T;clear b8;replace p9:=hQ p9;replace a7:=hQ a7;replace H:=hQ H;replace a5:=hQ a5;go_wp2_with ((with_reducible refine cAA T.out ?_ ?_;focus (exact⟨rfl,_,rfl,rfl⟩)));replace p9:=p9.out;replace a7:=a7.out;replace H:=H.out;replace a5:=a5.out;clear T;refine (CO _).mono ?_;rintro e a3 ⟨rfl,d18⟩;replace d18:Below (w6.alloc (.cells (cQ y []).toArray 28)).heap.size (w6.alloc (.cells (cQ y []).toArray 28)) a3:=d18;have a9:=bstep a5 d18;have b0:=p9.below d18;have a0:=a7.below d18;have b4:=H.below d18;have o7:=hQ d18.size;clear a5 p9 a7 H d18;have a8:(Instr.loadAt 28 (.pointer (some ⟨w6.heap.size,0,none⟩))).run Tryz.prog a3=.ok (.agg (cQ y []).toArray) a3:=iAA a0 0 (cQ y []).toArray gQ gQ gQ;replace a8:=hQ a8;have d9:(Instr.loadAt 30 (.pointer (some ⟨E.heap.size,0,none⟩))).run Tryz.prog a3=.ok (.agg #[.slice l L.length r]) a3:=iAA b0 0 #[.slice l L.length r] gQ gQ gQ;replace d9:=hQ d9;replace b0:=hQ b0;replace a0:=hQ a0;replace b4:=hQ b4;replace a9:=hQ a9;go_wp2_with (first|(with_reducible refine cAA a8.out ?_ ?_;focus (exact⟨rfl,_,rfl,rfl⟩))|(with_reducible refine cAA d9.out ?_ ?_;focus (exact⟨rfl,_,rfl,rfl⟩)));replace b0:=b0.out;replace a0:=a0.out;replace b4:=b4.out;replace a9:=a9.out;clear a8 d9;have e7:=alw a3 (.cells #[.int .i64 0,.bool false] 47);have m1:=bstep a9 e7;have n1:=b0.below e7;have m7:=a0.below e7;have j7:=b4.below e7;have s0:=hQ e7.size;clear a9 b0 a0 b4 e7;refine (q5 a3.heap.size _ j7.row (jBB _)).mono ?_;rintro e b6 ⟨m,t,st,p,rfl,o33,d34⟩;obtain⟨u1,l1,u2,l2,u3,l3,u4,l4,rfl,rfl,rfl,rfl,_⟩:=o33.len;clear o33;replace d34:Below (a3.alloc (.cells #[.int .i64 0,.bool false] 47)).heap.size (a3.alloc (.cells #[.int .i64 0,.bool false] 47)) b6:=d34;have n5:=bstep m1 d34;have c8:=n1.below d34;have c9:=m7.below d34;have b9:=j7.below d34;have r5:=hQ d34.size;clear m1 n1 m7 j7 d34;have i0:BoxN (b6.alloc (.cells (cQ s.cpu [.slice u1 s.mem.length l1,.slice u2 s.trace.length l2,.slice u3 s.starts.length l3,.slice u4 s.cpus.length l4,.bool s.jam]).toArray 38)) b6.heap.size 38 (cQ s.cpu [.slice u1 s.mem.length l1,.slice u2 s.trace.length l2,.slice u3 s.starts.length l3,.slice u4 s.cpus.length l4,.bool s.jam]).toArray:=by
   have h:=BoxN.new b6 38 (cQ s.cpu [.slice u1 s.mem.length l1,.slice u2 s.trace.length l2,.slice u3 s.starts.length l3,.slice u4 s.cpus.length l4,.bool s.jam]).toArray;simpa only[World.size_alloc] using h
  have i1:=alw b6 (.cells (cQ s.cpu [.slice u1 s.mem.length l1,.slice u2 s.trace.length l2,.slice u3 s.starts.length l3,.slice u4 s.cpus.length l4,.bool s.jam]).toArray 38);have e8:=bstep n5 i1;replace c8:=c8.below i1;replace c9:=c9.below i1;replace b9:=b9.below i1;clear i1;have r4:Hid ((b6.alloc (.cells (cQ s.cpu [.slice u1 s.mem.length l1,.slice u2 s.trace.length l2,.slice u3 s.starts.length l3,.slice u4 s.cpus.length l4,.bool s.jam]).toArray 38)).heap.size=b6.heap.size+1):=hQ tQ;clear n5;replace c8:=hQ c8;replace c9:=hQ c9;replace i0:=hQ i0;replace b9:=hQ b9;replace e8:=hQ e8;go_wp2_with fail;replace c8:=c8.out;replace c9:=c9.out;replace i0:=i0.out;replace b9:=b9.out;replace e8:=e8.out;go_cut [2] from 23 to 54 (fun v W=>v=.bool true/\Below (b6.alloc (.cells (cQ s.cpu [.slice u1 s.mem.length l1,.slice u2 s.trace.length l2,.slice u3 s.starts.length l3,.slice u4 s.cpus.length l4,.bool s.jam]).toArray 38)).heap.size (b6.alloc (.cells (cQ s.cpu [.slice u1 s.mem.length l1,.slice u2 s.trace.length l2,.slice u3 s.starts.length l3,.slice u4 s.cpus.length l4,.bool s.jam]).toArray 38)) W)
  case first=>
   rename_i J K' hJ hK;refine aYA x0 y0 (x0+256*y0) l L.length r E.heap.size w6.heap.size b6.heap.size s.jam s.cpu _ _ _ _ _ c8 (by have:=c9;rw[p8.out] at this;exact this) i0 p0.out q9.out rfl (fun W h=>q3 W (b9.row.below h)) (fun W h=>q1 W (b9.row.below h)) (fun W h=>n9 W (b9.row.below h)) _ rfl rfl rfl rfl _ ?_ _ gQ _;intro O W hf ht;exact hK _ _ (Met.intro (hJ _ _ ⟨O.eval (.tmp 2),O.eval (.tmp 23),O.eval (.tmp 24),O.eval (.tmp 25),O.eval (.tmp 26),O.eval (.tmp 27),O.eval (.tmp 28),O.eval (.tmp 29),O.eval (.tmp 30),O.eval (.tmp 31),O.eval (.tmp 32),O.eval (.tmp 33),O.eval (.tmp 34),O.eval (.tmp 35),O.eval (.tmp 36),O.eval (.tmp 37),O.eval (.tmp 38),O.eval (.tmp 39),O.eval (.tmp 40),O.eval (.tmp 41),O.eval (.tmp 42),O.eval (.tmp 43),O.eval (.tmp 44),O.eval (.tmp 45),O.eval (.tmp 46),O.eval (.tmp 47),O.eval (.tmp 48),O.eval (.tmp 49),O.eval (.tmp 50),O.eval (.tmp 51),O.eval (.tmp 52),O.eval (.tmp 53),O.eval (.tmp 54),ht,hf.eq.trans gQ⟩))
  obtain⟨rfl,d⟩:=hcut;have bz:=bstep e8 d;go_wp2;go_ret;exact⟨rfl,bz⟩
def xVA (w:World) (a:Option Addr) (len cap:Nat) (zs:List Int):Prop:=
 (a=none/\len=0/\cap=0/\zs=[]) \/
 ∃ x,a=some x/\len<=cap/\cap<=maxLen/\zs.length=cap/\(∀ i,i < zs.length->w.cell? (x.add i)=some (.int .u8 (zs.getD i 0)))/\∀ n ∈ zs,(Lit.int .u8 n).wf=true
theorem tHB {w:World} {a:Option Addr} {len cap:Nat} {zs:List Int} (h:xVA w a len cap zs) (hl:len<=1048576):uDA w.heap.size w a len zs:=by
 rcases h with ⟨rfl,rfl,rfl,rfl⟩|⟨x,rfl,h1,h2,h3,h4,h5⟩
 ·exact⟨dQ,fun h=>dQ⟩
 ·refine⟨hl,fun h0=>?_⟩;obtain⟨b,k5,spot⟩:=x;have hc:=h4 0 dQ;have k4:spot=none:=kQh;subst k4;have j3:∀ i,(⟨b,k5,none⟩:Addr).add i=⟨b,k5+i,none⟩:=fun i=>gQh
  refine⟨b,k5,rfl,World.block_lt_of_cell? w _ (by rw[j3] at hc;exact hc),fun i hi=>?_⟩;have hci:=h4 i dQ;rw[j3] at hci;have m0:zs[i]?.getD 0 ∈ zs:=by
   rw[List.getElem?_eq_getElem dQ];exact List.getElem_mem _
  have hb:=bounds_u8 (h5 _ m0);exact⟨by simpa [List.getD] using hci,hb.1,hb.2⟩

end Go.Proofs.YtckfdbjjjgfbfaaGreat
