import Derived.Test.YtckfdbjjjgfbfaaGreatVDrawCpu
import Derived.Deep.DeepCutAuto
import Derived.Deep.CutRange
set_option linter.unusedVariables false
set_option linter.unusedSimpArgs false
set_option maxRecDepth 100000
set_option maxHeartbeats 4000000
namespace Go.Proofs.YtckfdbjjjgfbfaaGreat
open Go.RowKit
def cTA (H B:Nat) (a:Option Addr) (len cap:Nat) (z:List Int) (w:World) (e:Ending) (w':World):Prop:=
 ∃ (v:Value) (L:List Nat) (s:Nat×Int),L.length<=8192/\e=.returned (ramV v)/\OwnB w' w.heap.size v L/\Drawn H B a len cap z s w'/\w.grownBy w' (some B)
def ramL4:List Int:=[256,512,1024,4096]
theorem xBB (i:Nat) (h:i < 4):∃ d:Nat,ramL4[i]?.getD 0=(d:Int)/\ramN d=true:=by
 unfold ramL4;rcases i with _|_|_|_|i
 ·exact⟨256,rfl,rfl⟩
 ·exact⟨512,rfl,rfl⟩
 ·exact⟨1024,rfl,rfl⟩
 ·exact⟨4096,rfl,rfl⟩
 ·omega
theorem fBB {d:Nat} (h:ramN d=true):newL (d:Int)=List.replicate d 0:=by
 unfold newL ramI;rw[if_pos (by simp[h])];simp
theorem jMA {w w1:World} {B:Nat} {u:Value} (hb:Below w.heap.size w w1) (h:w.cell? ⟨B,0,none⟩=some u/\B < w.heap.size):w1.cell? ⟨B,0,none⟩=some u/\B < w1.heap.size:=
 ⟨fIA hb h.1 h.2,Nat.lt_of_lt_of_le h.2 hb.size⟩
theorem dEB {w:World} {B C k:Nat} {u v:Value} (hne:C≠B) (h:w.cell? ⟨B,0,none⟩=some u/\B < w.heap.size):(w.setCell ⟨C,k,none⟩ v).cell? ⟨B,0,none⟩=some u/\B < (w.setCell ⟨C,k,none⟩ v).heap.size:=
 ⟨by rw[World.cell?_setCell_far];exact h.1;exact hne,by simpa using h.2⟩
theorem lJA {w w1:World} {B C:Nat} {u:Value} (hg:w.grownBy w1 (some C)) (hne:B≠C) (h:w.cell? ⟨B,0,none⟩=some u/\B < w.heap.size):w1.cell? ⟨B,0,none⟩=some u/\B < w1.heap.size:=
 ⟨hg.cell h.1 (by intro e;simp at e;exact hne e),Nat.lt_of_lt_of_le h.2 hg.size⟩
theorem nMA (H B:Nat) (a:Option Addr) (len cap:Nat) (z:List Int) (s:Nat×Int) (w:World) (h:Drawn H B a len cap z s w) :
  Calls Tryz.prog 66 #[.pointer (some ⟨B,0,none⟩)] w (cTA H B a len cap z w):=by
 have e0:=h.lt;have bx:=BoxN.new w 30 #[.slice none 0 0];have g0:=World.grownBy_alloc w (.cells #[.slice none 0 0] 30) (some B);go_enter Tryz.func66,Tryz.ntmps66;go_wp2_with l;have r:=lEA (w.alloc (.cells #[.slice none 0 0] 30)) ramL4 3;rw[World.size_alloc] at r;refine (aDA H B a len cap z s (w.heap.size+1) 4 4 ramL4 _ ((h.alloc _).alloc _) dQ dQ dQ yQ (fun i hi=>r i hi)).mono ?_;rintro e w1 ⟨rfl,hd1,hg1⟩;obtain⟨d,hd,k8⟩:=xBB (zAA z len s ((4:Nat):Int)).toNat (by have:=jDA z len s 4 dQ;show (zAA z len s 4).toNat < 4;omega);rw[hd];have a7:=((bx.below ((Below.refl _ _).alloc (Nat.le_refl _) _)).grown hg1 dQ);have a8:=fAA g0 (fAA (World.grownBy_alloc _ _ (some B)) hg1);generalize kBA len s ((4:Nat):Int)=s1 at hd1;clear bx g0 hg1 r hd;have CN:=fun w=>cSA (d:Int) w
 rw[fBB k8] at CN;go_wp2_with l;refine (CN _).mono ?_;rintro e J ⟨v2,rfl,o2,b2⟩;obtain⟨a2,c2,rfl⟩:=o2.len;rw[List.length_replicate] at o2 ⊢;have q5:=dBA k8;obtain⟨g2,q2,j6,_⟩:=o2.cells (by rw[List.length_replicate];omega);rw[List.length_replicate] at j6;simp only[Value.slice.injEq] at j6;obtain⟨rfl,_,rfl⟩:=j6;have q6:=((World.ownsRow.lt o2.2) g2 rfl);have R:=hd1.below b2;have a9:=fAA a8 (nAA b2);have U:=a7.below b2;have d3:Below J.heap.size J (J.alloc (.cells #[.slice (some ⟨g2,0,none⟩) d c2] 30)):=(Below.refl _ _).alloc (Nat.le_refl _) _;have p3:BoxN (J.alloc (.cells #[.slice (some ⟨g2,0,none⟩) d c2] 30)) J.heap.size 30 #[.slice (some ⟨g2,0,none⟩) d c2]:=BoxN.new _ _ _;have O:=R.below d3;have e3:=fAA a9 (nAA d3);have d0:=U.below d3;have o3:=o2.below d3;have hs1:=a8.size;have l4:=a7.lt;have n5:=b2.size;clear hd1 a8 a7 R a9 U d3 b2 o2 CN;go_wp2_with l;refine (yNA H B a len cap z s1 60 dQ _ O).mono ?_;rintro e w4 ⟨v4,X,s4,hX,rfl,o4,b8,hg4⟩;obtain⟨g4,q4,rfl,_⟩:=o4.cells dQ;have l1:=((World.ownsRow.lt o4.2) g4 rfl);rw[World.size_alloc] at o4 l1;have p4:=p3.grown hg4 dQ;have k3:=d0.grown hg4 dQ;have l9:=o3.grown hg4 dQ;have k4:=fAA e3 hg4;have n6:=hg4.size;rw[World.size_alloc] at n6;clear p3 d0 o3 e3 hg4 O;have m3:=j_ o4;have HX:=j_ o4.row.2;have H0:=j_ (And.intro p4 (And.intro k3 (And.intro l9 (And.intro b8 k4))));have q3:60<=X.length/\X.length<=180:=dQ;clear o4 p4 k3 l9 b8 k4 hX;go_wp2;go_loopw [5] (fun i wr=>∃ (j:Nat) (M:List Nat),j<=d/\i=.int .i64 j/\Hid (M.length=d/\OwnB wr w1.heap.size (.slice (some ⟨g2,0,none⟩) d c2) M/\OwnB wr (J.heap.size+1) (.slice (some ⟨g4,0,none⟩) X.length q4) X/\BoxN wr J.heap.size 30 #[.slice (some ⟨g2,0,none⟩) d c2]/\BoxN wr w.heap.size 30 #[.slice none 0 0]/\Drawn H B a len cap z s4 wr/\w.grownBy wr (some B))) (fun i _=>d - (intOf i).toNat)
 case atStart=>exact⟨0,List.replicate d 0,Nat.zero_le _,rfl,j_ ⟨List.length_replicate,H0.out.2.2.1,m3.out,H0.out.1,H0.out.2.1,H0.out.2.2.2.1,H0.out.2.2.2.2⟩⟩
 case round=>
  obtain⟨j,M,hj,rfl,HI⟩:=hrel;obtain⟨hM,oM,oX,pM,bM,i4,d2⟩:=HI.out;have cM:=pM.cell 0 (.slice (some ⟨g2,0,none⟩) d c2) rfl;by_cases hp:j < d
  ·obtain⟨q,hq⟩:∃ q,j / 97=q:=⟨_,rfl⟩;obtain⟨k,hk⟩:∃ k,(j*7+q) % X.length=k:=⟨_,rfl⟩;have r6:q<=4096:=dQ;have l2:k < X.length:=oQe;have y1:IntKind.i64.wrap ((j:Int)*7)=(j:Int)*7:=IntWalk.i64_in _ dQ;have y2:(j:Int).tdiv 97=(q:Int):=by rw[Int.tdiv_eq_ediv_of_nonneg dQ];omega
   have y3:IntKind.i64.wrap (q:Int)=(q:Int):=IntWalk.i64_in _ dQ;have y4:IntKind.i64.wrap ((j:Int)*7+(q:Int))=(j:Int)*7+(q:Int):=IntWalk.i64_in _ dQ;have y5:((j:Int)*7+(q:Int)).tmod (X.length:Int)=(k:Int):=by
    rw[show (j:Int)*7+(q:Int)=((j*7+q:Nat):Int) by omega,xGA _ _ dQ,hk]
   have y6:IntKind.i64.wrap (k:Int)=(k:Int):=IntWalk.i64_in _ dQ;have y7:¬ (X.length:Int)=0:=dQ;have y8:((X.length:Int)==0)=false:=beq_eq_false_iff_ne.2 dQ;have y9:¬ X.length=0:=dQ;have ij:(0:Int)<=(j:Int)/\(j:Int) < (d:Int):=dQ;have ik:(0:Int)<=(k:Int)/\(k:Int) < (X.length:Int):=dQ;obtain⟨j2,k9⟩:=wFA oM (k:=j) dQ;obtain⟨k7,_⟩:=wFA oX (k:=k) l2;obtain⟨y,hy⟩:∃ y,M.getD j 0=y:=⟨_,rfl⟩;obtain⟨x,hx⟩:∃ x,X.getD k 0=x:=⟨_,rfl⟩;have n7:x < 256:=by rw[<-hx];exact oX.1 k l2
   rw[hy] at j2;rw[hx] at k7;have k1:=j_ oM;have k2:=j_ oX;clear hy hx hk hq oM oX;go_wp2_with l;go_still_tail 15,gQ;change wpList _ _ _ _ _ wr.drew;have k6:wr.drew.cell? ⟨g2,j,none⟩=some (.int .u8 (y:Int)):=j2;have l0:wr.drew.frozen? ⟨g2,j,none⟩=false:=k9;have c9:Hid (OwnB wr.drew w1.heap.size (.slice (some ⟨g2,0,none⟩) d c2) M):=j_ k1.out;have i5:Hid (OwnB wr.drew (J.heap.size+1) (.slice (some ⟨g4,0,none⟩) X.length q4) X):=j_ k2.out;have m0:=pM.drew;have e2:=bM.drew;have b5:Drawn H B a len cap z s4 wr.drew:=i4;have b3:w.grownBy wr.drew (some B):=fAA d2 (nAA (Below.refl _ _).drew);clear j2 k9 k1 k2 pM bM i4 d2 k7 cM HI y1 y2 y3 y4 y5 y6 y7 y8;generalize wr.drew=w5 at k6 l0 c9 i5 m0 e2 b5 b3 ⊢;obtain⟨e9,a3⟩:=oKA (k:=j) c9.out hM.symm n7;have m4:=j_ e9;have c8:=j_ a3;clear e9 a3 c9;go_wp2;go_roundw
   case rel=>
    exact⟨j+1,M.set j x,dQ,bQh,j_ ⟨by rw[List.length_set];exact hM,m4.out,gFA i5.out c8.out (fun t ht=>by simp[Value.ownBlock] at ht;omega),m0.grown c8.out dQ,e2.grown c8.out dQ,b5.grown c8.out (fun t ht=>by simp at ht;omega),sFA b3 c8.out (fun t ht=>by simp at ht;omega)⟩⟩
   case measure=>simp[intOf];omega
  ·obtain rfl:j=d:=dQ;have CF:=fun (addr:Nat) (ha:addr < 65536) W hr hx=>dFA (some ⟨g2,0,none⟩) c2 addr M (some ⟨g4,0,none⟩) q4 X ha W hr hx nQe
   rw[hM] at CF;obtain⟨P,m9,p7⟩:∃ P:Nat,zAA z len s4 4096=(P:Int)/\P < 4096:=by
    obtain⟨u0,u1⟩:=jDA z len s4 4096 dQ;exact⟨(zAA z len s4 4096).toNat,dQ,dQ⟩
   have CB:=fun W hd=>hDA H B a len cap z s4 4096 W hd
   rw[m9] at CB;generalize kBA len s4 4096=s5 at CB;have y1:IntKind.u16.wrap (P:Int)=(P:Int):=by rw[IntKind.wrap_u16];omega
   have S0:wr.drew.cell? ⟨J.heap.size,0,none⟩=some (.slice (some ⟨g2,0,none⟩) j c2)/\J.heap.size < wr.drew.heap.size:=⟨cM,pM.lt⟩;have o0:OwnB wr.drew w1.heap.size (.slice (some ⟨g2,0,none⟩) j c2) M:=oM;have o1:OwnB wr.drew (J.heap.size+1) (.slice (some ⟨g4,0,none⟩) X.length q4) X:=oX;have e2:=bM.drew;have b5:Drawn H B a len cap z s4 wr.drew:=i4;have b3:w.grownBy wr.drew (some B):=fAA d2 (nAA (Below.refl _ _).drew);have r9:=d2.size;clear pM bM i4 d2 oM oX HI;go_wp2_with l;go_region_held3 (fun w'=>w'.cell? ⟨J.heap.size,0,none⟩=some (.slice (some ⟨g2,0,none⟩) j c2)/\J.heap.size < w'.heap.size)
    (((try dsimp only);(first|(with_reducible exact S0)|(exact lJA a3 dQ S0)|(exact jMA d6 (lJA a3 dQ S0))|(exact dEB dQ (jMA d6 (lJA a3 dQ S0))))))
    (first|(go_at_call 35;with_reducible refine (CB _ b5).mono ?_;rintro e w5 ⟨rfl,j3,a3⟩)|(go_at_call 69;with_reducible refine (CF P dQ _ (o0.grown a3 dQ).row.2 (o1.grown a3 dQ).row.2).mono ?_;rintro e w6 ⟨v6,rfl,o6,d6⟩;obtain⟨a6,c6,rfl⟩:=o6.len;have rR:=((e2.grown a3 dQ).below d6);have cR:=rR.cell 0 (.slice none 0 0) rfl;have fR:=rR.frozen 0))
   have m5:=fAA (fAA b3 a3) (nAA (row:=some B) d6);have c0:=j3.below d6;have r8:=a3.size;have d1:=(rR.set 0 (.slice a6 (fillL M P X).length c6)).cell 0 (.slice a6 (fillL M P X).length c6) rfl;go_wp2;refine bodyPost_ret (v:=ramV (.slice a6 (fillL M P X).length c6)) (by simp[results,Tryz.results66,go_sem,d1]) rfl ⟨_,fillL M P X,s5,?_,rfl,?_,?_,?_⟩
   ·unfold fillL;split
    ·rw[hIA];omega
    ·simp
   ·exact gFA (OwnB.base o6 dQ) (tGA _ _ _) (fun t ht=>by have:=((World.ownsRow.lt o6.2) t ht).1;omega)
   ·exact c0.setCell e0 _
   ·exact gCA m5 (Nat.le_refl _) _
def anyL:List Int:=[0,255,257,768,8192]
theorem tCB (i:Nat):∃ d:Nat,anyL[i]?.getD 0=(d:Int)/\d<=8192:=by
 unfold anyL;rcases i with _|_|_|_|_|i
 ·exact⟨0,rfl,dQ⟩
 ·exact⟨255,rfl,dQ⟩
 ·exact⟨257,rfl,dQ⟩
 ·exact⟨768,rfl,dQ⟩
 ·exact⟨8192,rfl,dQ⟩
 ·exact⟨0,rfl,dQ⟩
theorem bXA (H B:Nat) (a:Option Addr) (len cap:Nat) (z:List Int) (s:Nat×Int) (w:World) (h:Drawn H B a len cap z s w) :
  Calls Tryz.prog 33 #[.pointer (some ⟨B,0,none⟩)] w (cTA H B a len cap z w):=by
 have e0:=h.lt;have bx:=BoxN.new w 30 #[.slice none 0 0];have g0:=World.grownBy_alloc w (.cells #[.slice none 0 0] 30) (some B);go_enter Tryz.func33,Tryz.ntmps33;go_wp2_with l;refine (mEA H B a len cap z s 10 _ (h.alloc _)).mono ?_;rintro e w1 ⟨rfl,hd1,hg1⟩;have a7:=bx.grown hg1 dQ;have a8:=fAA g0 hg1;have l4:=a7.lt;clear bx g0 hg1;cases ho:(zAA z len s 10==0) with
 | true=>
  generalize kBA len s 10=s1 at hd1;go_wp2_with l;have r:=lEA w1 anyL 3;refine (aDA H B a len cap z s1 w1.heap.size 5 5 anyL _ (hd1.alloc _) dQ dQ (by have:=hd1.lt;omega) yQ (fun i hi=>r i hi)).mono ?_;rintro e J ⟨rfl,R,hg2⟩;obtain⟨d,hd,c1⟩:=tCB (zAA z len s1 ((5:Nat):Int)).toNat
  rw[hd];have U:=((a7.below ((Below.refl _ _).alloc (Nat.le_refl _) _)).grown hg2 dQ);have a9:=fAA a8 (fAA (World.grownBy_alloc _ _ (some B)) hg2);have n5:=hg2.size;generalize kBA len s1 ((5:Nat):Int)=s2 at R;clear a7 a8 hg2 r hd hd1;have n3:=fun w=>makeB d dQ w
  obtain⟨V,hV⟩:∃ V,Value.slice (some ⟨J.heap.size,0,none⟩) d d=V:=⟨_,rfl⟩;have o5:=U.lt;have d0:=U.below ((Below.refl _ _).alloc (Nat.le_refl _) (.cells (Array.replicate d (Value.int .u8 0)) 5));have cR:=d0.cell 0 (.slice none 0 0) rfl;have fR:=d0.frozen 0;have bs:=U.set 0 (.slice (some ⟨J.heap.size,0,none⟩) d d);have j4:(J.setCell ⟨w.heap.size,0,none⟩ (.slice (some ⟨J.heap.size,0,none⟩) d d)).heap.size=J.heap.size:=yQ;have d1:=(bs.below ((Below.refl _ _).alloc (Nat.le_refl _) (.cells (Array.replicate d (Value.int .u8 0)) 5))).cell 0 (.slice (some ⟨J.heap.size,0,none⟩) d d) rfl;have o3:OwnB ((J.setCell ⟨w.heap.size,0,none⟩ (.slice (some ⟨J.heap.size,0,none⟩) d d)).alloc (.cells (Array.replicate d (Value.int .u8 0)) 5)) J.heap.size (.slice (some ⟨J.heap.size,0,none⟩) d d) (List.replicate d 0):=by
   have:=zLA (J.setCell ⟨w.heap.size,0,none⟩ (.slice (some ⟨J.heap.size,0,none⟩) d d)) (List.replicate d 0) xQg (fun i hi=>mQg);rw[j4] at this;simp only[List.length_replicate,List.map_replicate,u8V,List.toArray_replicate] at this;exact this
  have O:=(R.setCell (p:=⟨w.heap.size,0,none⟩) e0 (.slice (some ⟨J.heap.size,0,none⟩) d d)).alloc (.cells (Array.replicate d (Value.int .u8 0)) 5);have e3:=fAA (gCA a9 (p:=⟨w.heap.size,0,none⟩) (Nat.le_refl _) (.slice (some ⟨J.heap.size,0,none⟩) d d)) (World.grownBy_alloc _ (.cells (Array.replicate d (Value.int .u8 0)) 5) (some B));have m2:=j_ o3;clear o3 U a9 R hV bs j4;go_wp2;refine bodyPost_ret (v:=ramV (.slice (some ⟨J.heap.size,0,none⟩) d d)) (by simp[results,Tryz.results33,go_sem,d1]) rfl ⟨_,List.replicate d 0,s2,by rw[List.length_replicate];exact c1,rfl,?_,O,e3⟩;exact OwnB.base m2.out dQ
 | false=>
  generalize kBA len s 10=s1 at hd1;go_wp2_with l;refine (nMA H B a len cap z s1 _ hd1).mono ?_;rintro e J ⟨v2,L,s2,hL,rfl,o2,R,hg2⟩;obtain⟨a2,c2,rfl⟩:=o2.len;have U:=a7.grown hg2 dQ;have a9:=fAA a8 hg2;have cR:=U.cell 0 (.slice none 0 0) rfl;have fR:=U.frozen 0;have d1:=(U.set 0 (.slice a2 L.length c2)).cell 0 (.slice a2 L.length c2) rfl;have j9:=j_ o2;clear a7 a8 hg2 hd1 o2;go_wp2;refine bodyPost_ret (v:=ramV (.slice a2 L.length c2)) (by simp[results,Tryz.results33,go_sem,d1]) rfl ⟨_,L,s2,hL,rfl,?_,?_,?_⟩
  ·exact gFA (OwnB.base j9.out dQ) (tGA _ _ _) (fun t ht=>by have:=((World.ownsRow.lt j9.out.2) t ht).1;omega)
  ·exact R.setCell e0 _
  ·exact gCA a9 (Nat.le_refl _) _
theorem oneEv:∀ x:EvN,∀ u ∈ encEv.cells x,u.oneCell'=true:=fun x u hu=>by
 simp[encEv] at hu;rcases hu with rfl|rfl<;>rfl
theorem pIA {w:World} {lo hi:Nat} {v:Value} {L:List EvN} (h:SegG encEv w lo hi v L) (n2:hi<=w.heap.size) (l3:lo<=w.heap.size) (x:EvN) (g:Nat) (hg:BoxN w g 47 #[.int .i64 x.at',.bool x.nmi]) (hsm:L.length<=1000000) (c:Nat) :
  ∃ g' a0 w',(∀ ty,(Builtin.append_ #[31,31] ty #[v,.slice (some ⟨g,0,none⟩) 1 c]).run Tryz.prog w=.ok (.slice (some ⟨g',0,none⟩) (L.length+1) a0) w')/\SegG encEv w' g' (g'+1) (.slice (some ⟨g',0,none⟩) (L.length+1) a0) (L++[x])/\Span lo hi w w'/\((lo<=g'/\g' < hi)\/g'=w.heap.size)/\g' < w'.heap.size:=
 fGA encEv ev0 iQ 31 (.agg #[.int .i64 0,.bool false]) 16 Tryz.underlying31 oUA rfl h n2 l3 g 0 c (X:=[x]) (fun j u hu=>by
  rw[Nat.zero_add];exact hg.cell j u (by simpa [encEv] using hu)) oneEv yQ qQ qQ
theorem Drawn.span {H B:Nat} {a:Option Addr} {len cap:Nat} {z:List Int} {s:Nat×Int} {w w':World} {lo hi:Nat} (h:Drawn H B a len cap z s w) (hs:Span lo hi w w') (hB:B < lo):Drawn H B a len cap z s w':=
 ⟨h.1.kept (hs.below (by have:=h.2.2;omega) (by have:=h.lt;have:=h.2.2;omega)),(hs.block B h.lt (.inl hB)).trans h.2.1,h.2.2⟩
theorem sCA {w w1 J:World} {B lo hi:Nat} (h:w.grownBy w1 (some B)) (hs:Span lo hi w1 J) (l3:w.heap.size<=lo):w.grownBy J (some B):=
 ⟨hs.os.trans h.os,hs.tape.trans h.tape,hs.output.trans h.output,Nat.le_trans h.size hs.size,fun i hi hn=>(hs.block i (Nat.lt_of_lt_of_le hi h.size) (.inl dQ)).trans (h.block i hi hn)⟩
theorem OwnG.grown {α:Type} {e:Enc α} {w w':World} {base B:Nat} {v:Value} {L:List α} (h:OwnG e w base v L) (hg:w.grownBy w' (some B)) (hB:B < base):OwnG e w' base v L:=by
 refine World.ownsRow.kept h hg ?_;cases hv:v.ownBlock with
 | none=>exact .inl rfl
 | some g=>
  refine .inr ?_;have:=(World.ownsRow.lt h) g hv;intro e;simp at e;omega
def xTA (H B:Nat) (a:Option Addr) (len cap:Nat) (z:List Int) (w:World) (e:Ending) (w':World):Prop:=
 ∃ (v:Value) (E:List EvN) (s:Nat×Int),E.length<=3/\e=.returned v/\OwnG encEv w' w.heap.size v E/\Drawn H B a len cap z s w'/\w.grownBy w' (some B)
theorem gUA {H B:Nat} {a:Option Addr} {len cap:Nat} {z:List Int} {s:Nat×Int} {w wr:World} {v:Value} {E:List EvN} (hB:B < w.heap.size) (hO:OwnG encEv wr w.heap.size v E) (hd:Drawn H B a len cap z s wr) (hg:w.grownBy wr (some B)) (hE:E.length<=100) (x:EvN) :
  ∃ g' a0 w',(∀ ty,(Builtin.append_ #[31,31] ty #[v,.slice (some ⟨wr.heap.size,0,none⟩) 1 1]).run Tryz.prog (wr.alloc (.cells #[.int .i64 x.at',.bool x.nmi] 47))=.ok (.slice (some ⟨g',0,none⟩) (E.length+1) a0) w') /\
   OwnG encEv w' w.heap.size (.slice (some ⟨g',0,none⟩) (E.length+1) a0) (E++[x])/\Drawn H B a len cap z s w'/\w.grownBy w' (some B):=by
 have j4:=hg.size;have hk:Below wr.heap.size wr (wr.alloc (.cells #[.int .i64 x.at',.bool x.nmi] 47)):=(Below.refl _ _).alloc (Nat.le_refl _) _;have bx:=BoxN.new wr 47 #[.int .i64 x.at',.bool x.nmi];obtain⟨g',a0,w',hr,hs,hsp,n0,e0⟩:=pIA ((SegG.of hO).below hk) hk.size (by rw[World.size_alloc];omega) x wr.heap.size bx dQ 1;rw[World.size_alloc] at n0;refine⟨g',a0,w',hr,?_,(hd.alloc _).span hsp hB,sCA (fAA hg (World.grownBy_alloc wr _ (some B))) hsp (Nat.le_refl _)⟩;exact OwnG.up hs.1 (fun k ek=>lQc)
theorem dOA (H B:Nat) (a:Option Addr) (len cap:Nat) (z:List Int) (s:Nat×Int) (w:World) (h:Drawn H B a len cap z s w) :
  Calls Tryz.prog 34 #[.pointer (some ⟨B,0,none⟩)] w (xTA H B a len cap z w):=by
 have a4:=h.lt;obtain⟨q0,q1⟩:=jDA z len s 4 dQ;obtain⟨n,hn⟩:=Int.eq_ofNat_of_zero_le q0;rw[hn] at q1;have q9:n<=3:=dQ;have HN:=j_ hn;clear hn q0 q1;go_enter Tryz.func34,Tryz.ntmps34;go_wp2_with l;refine (hDA H B a len cap z s 4 _ (h.alloc _)).mono ?_;rintro e w1 ⟨rfl,hd1,hg1⟩;rw[HN.out];have j0:OwnG encEv w1 w.heap.size (.slice (some ⟨w.heap.size,0,none⟩) 0 0) []:=OwnG.grown (World.ownsRow_made w #[] 0 (Nat.le_refl _) iQ rfl) hg1 a4;have i7:=fAA (World.grownBy_alloc w (.cells #[] 47) (some B)) hg1;clear h hg1;go_wp2;go_loopw [3,5] (fun out i wr=>∃ (j:Nat) (E:List EvN) (s':Nat×Int),j<=n/\E.length=j/\i=.int .i64 j/\OwnG encEv wr w.heap.size out E/\Drawn H B a len cap z s' wr/\w.grownBy wr (some B)) (fun _ i _=>n - (intOf i).toNat)
 case atStart=>exact⟨0,[],_,Nat.zero_le _,rfl,rfl,j0,hd1,i7⟩
 case round=>
  obtain⟨j,E,s',hj,rfl,rfl,hO,hd,hg⟩:=hrel;by_cases hp:E.length < n
  ·go_wp2_with l;refine (hDA H B a len cap z s' 20 _ hd).mono ?_;rintro e J ⟨rfl,R,hg2⟩;have e8:=hO.grown hg2 a4;have e4:=fAA hg hg2;clear hO hd hg hg2;go_wp2_with l;refine (mEA H B a len cap z _ 3 _ R).mono ?_;rintro e w3 ⟨rfl,O,hg3⟩;have a1:=e8.grown hg3 a4;have a5:=fAA e4 hg3;clear e8 R e4 hg3;obtain⟨g',c',w4,hr,j1,b8,i9⟩:=gUA a4 a1 O a5 dQ ⟨zAA z len s' 20,zAA z len (kBA len s' 20) 3==0⟩;clear a1 O a5;replace hr:=j_ hr;go_wp2_with (at_builtin;refine yAA hr.out rfl rfl rfl rfl ?_);go_roundw
   case rel=>exact⟨E.length+1,_,_,dQ,by rw[List.length_append];rfl,bQh,j1,b8,i9⟩
   case measure=>simp[intOf];omega
  ·go_wp2;go_ret;exact⟨_,E,s',dQ,rfl,hO,hd,hg⟩
structure HBT (d:Prop) (A B:Nat) (V w:World):Prop where
 own:d\/Span A B V w
 span:Span A (B+1) V w
theorem HBT.size {d:Prop} {A B:Nat} {V w:World} (h:HBT d A B V w):V.heap.size<=w.heap.size:=h.span.size
theorem HBT.start (A B:Nat) (V:World):HBT False A B V V.drew:=⟨.inr (Span.of_below _ _ (Below.refl _ _).drew),Span.of_below _ _ (Below.refl _ _).drew⟩
theorem HBT.up {d d':Prop} {A B:Nat} {V w:World} (h:HBT d A B V w) (f:d->d'):HBT d' A B V w:=⟨h.own.imp f id,h.span⟩
theorem HBT.below {d:Prop} {A B:Nat} {V w w':World} (h:HBT d A B V w) (hb:Below w.heap.size w w'):HBT d A B V w':=
 ⟨h.own.imp id (fun h=>h.trans (Span.of_below _ _ hb)),h.span.trans (Span.of_below _ _ hb)⟩
theorem HBT.draw {d d':Prop} {A B:Nat} {V w w':World} (h:HBT d A B V w) (hg:w.grownBy w' (some B)) (k5:A<=B) (hd:d'):HBT d' A B V w':=
 ⟨.inl hd,h.span.trans (Span.of_grown hg k5 (Nat.lt_succ_self _))⟩
theorem vTA {V w w':World} {lo hi P:Nat} (h:Span lo hi V w) (k:Span P (P+1) w w') (hp:V.heap.size<=P):Span lo hi V w':=
 ⟨k.os.trans h.os,k.tape.trans h.tape,k.output.trans h.output,Nat.le_trans h.size k.size,fun i hi hd=>(k.block i (Nat.lt_of_lt_of_le hi h.size) (.inl (Nat.lt_of_lt_of_le hi hp))).trans (h.block i hi hd)⟩
theorem HBT.new {d:Prop} {A B P:Nat} {V w w':World} (h:HBT d A B V w) (hs:Span P (P+1) w w') (hp:V.heap.size<=P):HBT d A B V w':=
 ⟨h.own.imp id (fun h=>vTA h hs hp),vTA h.span hs hp⟩
theorem HBT.set {d:Prop} {A B:Nat} {V w w':World} (h:HBT d A B V w) (hs:Span A (A+1) w w') (k5:A+1=B):HBT d A B V w':=
 ⟨h.own.imp id (fun h=>h.trans (hs.wide (Nat.le_refl _) dQ)),h.span.trans (hs.wide (Nat.le_refl _) dQ)⟩
theorem Drawn.span2 {H B:Nat} {a:Option Addr} {len cap:Nat} {z:List Int} {s:Nat×Int} {w w':World} {lo hi:Nat} (h:Drawn H B a len cap z s w) (hs:Span lo hi w w') (hn:H<=lo) (hB:B < lo\/hi<=B):Drawn H B a len cap z s w':=
 ⟨h.1.kept (hs.below hn (by have:=h.lt;have:=h.2.2;omega)),(hs.block B h.lt hB).trans h.2.1,h.2.2⟩
def loopL:List Int:=[0,1,2,5,254,250,3]
theorem dBB (i:Nat):∃ Q:Nat,loopL[i]?.getD 0=(Q:Int)/\Q < 256:=by
 unfold loopL;rcases i with _|_|_|_|_|_|_|i
 ·exact⟨0,rfl,dQ⟩
 ·exact⟨1,rfl,dQ⟩
 ·exact⟨2,rfl,dQ⟩
 ·exact⟨5,rfl,dQ⟩
 ·exact⟨254,rfl,dQ⟩
 ·exact⟨250,rfl,dQ⟩
 ·exact⟨3,rfl,dQ⟩
 ·exact⟨0,rfl,dQ⟩
theorem eLA (H B:Nat) (a:Option Addr) (len cap:Nat) (z:List Int) (s:Nat×Int) (w:World) (h:Drawn H B a len cap z s w) :
  Calls Tryz.prog 68 #[.pointer (some ⟨B,0,none⟩)] w (vKA H B a len cap z 3 64 w):=by
 obtain⟨i0,hi,hz0,hz1,j7⟩:=info_parts yEA;have a4:=h.lt;obtain⟨q0,q1⟩:=jDA z len s 14 dQ;obtain⟨n1,hn⟩:=Int.eq_ofNat_of_zero_le q0;rw[hn] at q1;have o7:n1<=13:=dQ;have HN:=j_ hn;clear hn q0 q1;go_enter Tryz.func68,Tryz.ntmps68;go_wp2_with l;refine (hDA H B a len cap z s 14 _ (h.alloc _)).mono ?_;rintro e w1 ⟨rfl,hd1,hg1⟩;rw[HN.out];have j0:OwnB w1 w.heap.size (.slice (some ⟨w.heap.size,0,none⟩) 0 0) []:=OwnB.grown ⟨fun i hi=>by simp at hi,World.ownsRow_made w #[] 0 (Nat.le_refl _) iQ rfl⟩ hg1 a4;have i7:=fAA (World.grownBy_alloc w (.cells #[] 5) (some B)) hg1;clear h hg1;obtain⟨n,n4⟩:∃ n:Nat,(3:Int)+(n1:Int)=(n:Int):=⟨3+n1,dQ⟩;have o8:3<=n/\n<=16:=dQ;go_wp2;try rw[n4]
 go_loopw [3,5] (fun out i wr=>∃ (j:Nat) (L:List Nat) (s':Nat×Int),j<=n/\(L.length<=3*j/\j<=L.length)/\i=.int .i64 j/\OwnB wr w.heap.size out L/\Drawn H B a len cap z s' wr/\w.grownBy wr (some B)) (fun _ i _=>n - (intOf i).toNat)
 case atStart=>exact⟨0,[],_,Nat.zero_le _,⟨Nat.zero_le _,Nat.zero_le _⟩,rfl,j0,hd1,i7⟩
 case round=>
  obtain⟨j,L,s',hj,hL,rfl,hO,hd,hg⟩:=hrel;by_cases hp:j < n
  ·go_wp2_with l;refine (gIA H B a len cap z s' _ hd).mono ?_;rintro e J ⟨x,s2,hx,rfl,R,hg2⟩;have e8:=hO.grown hg2 a4;have e4:=fAA hg hg2;clear hO hd hg hg2;go_wp2;go_loopw [6,7] (fun bb i wr=>∃ (y k:Nat) (s':Nat×Int),y < 256/\k<=4/\bb=.int .u8 y/\i=.int .i64 k/\OwnB wr w.heap.size _ L/\Drawn H B a len cap z s' wr/\w.grownBy wr (some B)) (fun _ i _=>4 - (intOf i).toNat)
   case atStart=>exact⟨x,0,_,hx,Nat.zero_le _,rfl,rfl,e8,R,e4⟩
   case round=>
    obtain⟨y,k,s3,hy,hk,rfl,rfl,a1,O,a5⟩:=hrel;have HK:=fun W=>sJA y hy W
    obtain⟨K,hK⟩:∃ K,eAA y=K:=⟨_,rfl⟩;rw[hK] at HK;go_upto_region 8 with l
    go_cut [52] from 21 to 56 (fun v W=>∃ b:Bool,v=.bool b/\(b=true->k < 4)/\Below wr.heap.size wr W)
    case first=>
     by_cases b1:k < 4
     ·cases o9:(K==0) with
      | true=>
       go_wp2_with l;refine (HK _).mono ?_;rintro e v0 ⟨rfl,r0⟩;go_wp2;go_meet;exact⟨true,rfl,fun _=>b1,r0⟩
      | false=>
       cases p0:(K==6) with
       | true=>
        go_wp2_with l;refine (HK _).mono ?_;rintro e v0 ⟨rfl,r0⟩;go_wp2_with l;refine (HK _).mono ?_;rintro e v1 ⟨rfl,r1⟩;go_wp2;go_meet;exact⟨true,rfl,fun _=>b1,(bstep r0 r1)⟩
       | false=>
        cases p1:(K==10) with
        | true=>
         go_wp2_with l;refine (HK _).mono ?_;rintro e v0 ⟨rfl,r0⟩;go_wp2_with l;refine (HK _).mono ?_;rintro e v1 ⟨rfl,r1⟩;go_wp2_with l;refine (HK _).mono ?_;rintro e v2 ⟨rfl,r2⟩;go_wp2;go_meet;exact⟨true,rfl,fun _=>b1,(bstep (bstep r0 r1) r2)⟩
        | false=>
         cases p5:(K==9) with
         | true=>
          go_wp2_with l;refine (HK _).mono ?_;rintro e v0 ⟨rfl,r0⟩;go_wp2_with l;refine (HK _).mono ?_;rintro e v1 ⟨rfl,r1⟩;go_wp2_with l;refine (HK _).mono ?_;rintro e v2 ⟨rfl,r2⟩;go_wp2_with l;refine (HK _).mono ?_;rintro e v3 ⟨rfl,r3⟩;go_wp2;go_meet;exact⟨true,rfl,fun _=>b1,(bstep (bstep (bstep r0 r1) r2) r3)⟩
         | false=>
          cases p6:(K==8) with
          | true=>
           go_wp2_with l;refine (HK _).mono ?_;rintro e v0 ⟨rfl,r0⟩;go_wp2_with l;refine (HK _).mono ?_;rintro e v1 ⟨rfl,r1⟩;go_wp2_with l;refine (HK _).mono ?_;rintro e v2 ⟨rfl,r2⟩;go_wp2_with l;refine (HK _).mono ?_;rintro e v3 ⟨rfl,r3⟩;go_wp2_with l;refine (HK _).mono ?_;rintro e v4 ⟨rfl,r4⟩;go_wp2;go_meet;exact⟨true,rfl,fun _=>b1,(bstep (bstep (bstep (bstep r0 r1) r2) r3) r4)⟩
          | false=>
           cases m6:(K==7) with
           | true=>
            go_wp2_with l;refine (HK _).mono ?_;rintro e v0 ⟨rfl,r0⟩;go_wp2_with l;refine (HK _).mono ?_;rintro e v1 ⟨rfl,r1⟩;go_wp2_with l;refine (HK _).mono ?_;rintro e v2 ⟨rfl,r2⟩;go_wp2_with l;refine (HK _).mono ?_;rintro e v3 ⟨rfl,r3⟩;go_wp2_with l;refine (HK _).mono ?_;rintro e v4 ⟨rfl,r4⟩;go_wp2_with l;refine (HK _).mono ?_;rintro e v5 ⟨rfl,r5⟩;go_wp2;go_meet;exact⟨true,rfl,fun _=>b1,(bstep (bstep (bstep (bstep (bstep r0 r1) r2) r3) r4) r5)⟩
           | false=>
            go_wp2_with l;refine (HK _).mono ?_;rintro e v0 ⟨rfl,r0⟩;go_wp2_with l;refine (HK _).mono ?_;rintro e v1 ⟨rfl,r1⟩;go_wp2_with l;refine (HK _).mono ?_;rintro e v2 ⟨rfl,r2⟩;go_wp2_with l;refine (HK _).mono ?_;rintro e v3 ⟨rfl,r3⟩;go_wp2_with l;refine (HK _).mono ?_;rintro e v4 ⟨rfl,r4⟩;go_wp2_with l;refine (HK _).mono ?_;rintro e v5 ⟨rfl,r5⟩;go_wp2;go_meet;exact⟨false,rfl,fun h=>(Bool.noConfusion h),(bstep (bstep (bstep (bstep (bstep r0 r1) r2) r3) r4) r5)⟩
     ·go_wp2_with l;go_meet;exact⟨false,rfl,fun h=>(Bool.noConfusion h),Below.refl _ _⟩
    obtain⟨b,rfl,hb4,hbW⟩:=hcut;replace a1:=a1.below hbW;replace O:=O.below hbW;replace a5:=fAA a5 (nAA hbW);clear hbW;cases b with
    | true=>
     have b1:=hb4 rfl;clear hb4 HK hK;go_wp2_with l;refine (gIA H B a len cap z s3 _ O).mono ?_;rintro e w4 ⟨x4,s4,n8,rfl,b8,hg4⟩;have j1:=a1.grown hg4 a4;have i9:=fAA a5 hg4;clear a1 O a5 hg4;go_wp2;go_roundw
     case rel=>exact⟨x4,k+1,_,n8,dQ,rfl,bQh,j1,b8,i9⟩
     case measure=>simp[intOf];omega
    | false=>
     clear hb4 hk;have l6:=a5.size;go_wp2_with (at_builtin;refine wpList_append_own _ rfl _ _ 22 rfl w.heap.size 5 i0 (.int .u8 0) 1 1 Tryz.underlying22 hi hz0 hz1 j7 rfl iQ _ _ _ rfl (World.ownsRow.alloc a1.2 _) ⟨wc.heap.size,0,none⟩ 1 1 [u8V y] rfl rfl (cell_one_new _ _ _) ?c2 ?c3 ?c4 ?c5 ?_)
     case c2=>first|rfl|(intro u hu;simp at hu;subst hu;rfl)
     case c3=>unfold maxLen;first|omega|(simp;omega)
     case c4=>first|omega|(simp;omega)
     case c5=>first|omega|(simp;omega)
     intro v5 w5 T hgrow _;have hrow:∀ k,Value.ownBlock _=some k->w.heap.size<=k:=fun k ek=>((World.ownsRow.lt a1.2) k ek).1
     have m7:w.grownBy w5 (some B):=sFA (fAA a5 (World.grownBy_alloc wc _ (some B))) hgrow hrow;have j3:=(O.alloc _).grown hgrow (fun k ek=>bQi);have e9:OwnB w5 w.heap.size v5 (L++[y]):=⟨xHA a1.1 dQ,by simpa using T⟩;clear T hgrow a1 O a5 hrow l6;obtain⟨q,hq⟩:∃ q:Nat,sAA y=q/\q<=3:=by
      obtain⟨z0,z3⟩:=mJA hy;exact⟨(sAA y).toNat,dQ,dQ⟩
     obtain⟨hq,r7⟩:=hq;have i6:=fun w=>kHA y hy w
     rw[hq] at i6;clear hq;go_wp2;go_loopw [3,8] (fun out i wr=>∃ (m:Nat) (M:List Nat) (s':Nat×Int),1<=m/\m<=3/\(M.length<=3*j+m/\j+1<=M.length)/\i=.int .i64 m/\OwnB wr w.heap.size out M/\Drawn H B a len cap z s' wr/\w.grownBy wr (some B)) (fun _ i _=>3 - (intOf i).toNat)
     case atStart=>exact⟨1,L++[y],s3,Nat.le_refl _,dQ,qQ,rfl,e9,j3,m7⟩
     case round=>
      obtain⟨m,M,s6,q7,q8,hM,rfl,hO6,c0,hG6⟩:=hrel;by_cases n3:m < q
      ·have l5:(m:Int) < (q:Int):=dQ;go_wp2_with l;refine (i6 _).mono ?_;rintro e w7 ⟨rfl,b7⟩;have i1:=hO6.below b7;have i3:=c0.below b7;have e6:=fAA hG6 (nAA b7);clear hO6 c0 hG6 b7;go_wp2_with l;refine (aGA H B a len cap z s6 _ i3).mono ?_;rintro e w8 ⟨y8,s8,l8,n9,rfl,c1,hg8⟩;obtain⟨Y,rfl⟩:=Int.eq_ofNat_of_zero_le l8;have hY:Y < 256:=dQ;have i2:=i1.grown hg8 a4;have e7:=fAA e6 hg8;clear i1 i3 e6 hg8 l8 n9;cases m6:(K==5) with
       | true=>
        go_wp2_with l;refine (HK _).mono ?_;rintro e w9 ⟨rfl,b9⟩;have b0:=i2.below b9;have c7:=c1.below b9;have b6:=fAA e7 (nAA b9);clear i2 c1 e7 b9;go_wp2_with l;have r:=lEA w9 loopL 3;refine (aDA H B a len cap z s8 w9.heap.size 7 7 loopL _ (c7.alloc _) dQ dQ (by have:=c7.lt;omega) yQ (fun i hi=>r i hi)).mono ?_;rintro e m1 ⟨rfl,hd10,hg10⟩;obtain⟨Q,hQ,p8⟩:∃ Q:Nat,loopL[(zAA z len s8 ((7:Nat):Int)).toNat]?.getD 0=(Q:Int)/\Q < 256:=dBB _;rw[hQ];have b4:=(b0.below ((Below.refl _ _).alloc (Nat.le_refl _) (.cells (loopL.map (Value.int .i64)).toArray 3))).grown hg10 a4;have d4:=fAA b6 (fAA (World.grownBy_alloc w9 _ (some B)) hg10);clear b0 c7 b6 hg10 r hQ;have j5:=d4.size;have p9:IntKind.u8.wrap (Q:Int)=(Q:Int):=by simp only[IntKind.wrap,IntKind.bits,IntKind.signed];simp;omega
        go_wp2_with (at_builtin;refine wpList_append_own _ rfl _ _ 22 rfl w.heap.size 5 i0 (.int .u8 0) 1 1 Tryz.underlying22 hi hz0 hz1 j7 rfl iQ _ _ _ rfl (World.ownsRow.alloc b4.2 _) ⟨m1.heap.size,0,none⟩ 1 1 [u8V Q] rfl rfl (cell_one_new _ _ _) ?c2 ?c3 ?c4 ?c5 ?_)
        case c2=>first|rfl|(intro u hu;simp at hu;subst hu;rfl)
        case c3=>unfold maxLen;first|omega|(simp;omega)
        case c4=>first|omega|(simp;omega)
        case c5=>first|omega|(simp;omega)
        intro j8 e1 T hgrow _;have hrow:∀ k,Value.ownBlock _=some k->w.heap.size<=k:=fun k ek=>((World.ownsRow.lt b4.2) k ek).1
        have d7:w.grownBy e1 (some B):=sFA (fAA d4 (World.grownBy_alloc m1 _ (some B))) hgrow hrow;have d9:=(hd10.alloc _).grown hgrow (fun k ek=>bQi);have d8:OwnB e1 w.heap.size j8 (M++[Q]):=⟨xHA b4.1 dQ,by simpa using T⟩;clear T hgrow b4 hd10 d4 hrow j5;go_wp2;go_roundw
        case rel=>exact⟨m+1,_,_,dQ,dQ,by rw[List.length_append];show M.length+1<=_/\j+1<=M.length+1;omega,bQh,d8,d9,d7⟩
        case measure=>simp[intOf];omega
       | false=>
        go_wp2_with l;refine (HK _).mono ?_;rintro e w9 ⟨rfl,b9⟩;have b0:=i2.below b9;have c7:=c1.below b9;have b6:=fAA e7 (nAA b9);clear i2 c1 e7 b9;have l7:=b6.size;go_wp2_with (at_builtin;refine wpList_append_own _ rfl _ _ 22 rfl w.heap.size 5 i0 (.int .u8 0) 1 1 Tryz.underlying22 hi hz0 hz1 j7 rfl iQ _ _ _ rfl (World.ownsRow.alloc b0.2 _) ⟨w9.heap.size,0,none⟩ 1 1 [u8V Y] rfl rfl (cell_one_new _ _ _) ?c2 ?c3 ?c4 ?c5 ?_)
        case c2=>first|rfl|(intro u hu;simp at hu;subst hu;rfl)
        case c3=>unfold maxLen;first|omega|(simp;omega)
        case c4=>first|omega|(simp;omega)
        case c5=>first|omega|(simp;omega)
        intro j8 e1 T hgrow _;have hrow:∀ k,Value.ownBlock _=some k->w.heap.size<=k:=fun k ek=>((World.ownsRow.lt b0.2) k ek).1
        have d7:w.grownBy e1 (some B):=sFA (fAA b6 (World.grownBy_alloc w9 _ (some B))) hgrow hrow;have d9:=(c7.alloc _).grown hgrow (fun k ek=>bQi);have d8:OwnB e1 w.heap.size j8 (M++[Y]):=⟨xHA b0.1 dQ,by simpa using T⟩;clear T hgrow b0 c7 b6 hrow l7;go_wp2;go_roundw
        case rel=>exact⟨m+1,_,_,dQ,dQ,by rw[List.length_append];show M.length+1<=_/\j+1<=M.length+1;omega,bQh,d8,d9,d7⟩
        case measure=>simp[intOf];omega
      ·have l5:¬ (m:Int) < (q:Int):=dQ;go_wp2_with l;refine (i6 _).mono ?_;rintro e w7 ⟨rfl,b7⟩;have i1:=hO6.below b7;have i3:=c0.below b7;have e6:=fAA hG6 (nAA b7);clear hO6 c0 hG6 b7;go_wp2;go_roundw
       case rel=>exact⟨j+1,M,_,dQ,dQ,bQh,i1,i3,e6⟩
       case measure=>simp[intOf];omega
  ·obtain rfl:j=n:=dQ;go_wp2;go_ret;exact⟨_,L,s',dQ,rfl,hO,hd,hg⟩

end Go.Proofs.YtckfdbjjjgfbfaaGreat
