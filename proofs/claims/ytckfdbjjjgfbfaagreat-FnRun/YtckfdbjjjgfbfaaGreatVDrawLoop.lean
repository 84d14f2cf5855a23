import Derived.Test.YtckfdbjjjgfbfaaGreatVDrawCpu
import Derived.Deep.DeepCutAuto
import Derived.Deep.CutRange
set_option linter.unusedVariables false
set_option linter.unusedSimpArgs false
set_option maxRecDepth 100000
set_option maxHeartbeats 4000000
namespace Go.Proofs.YtckfdbjjjgfbfaaGreat
open Go.RowKit
def cTA (r B:Nat) (a:Option Addr) (len cap:Nat) (z:List Int) (w:World) (e:Ending) (w':World):Prop:=
 ∃ (v:Value) (L:List Nat) (s:Nat×Int),L.length<=8192/\e=.returned (ramV v)/\OwnB w' w.heap.size v L/\Drawn r B a len cap z s w'/\w.grownBy w' (some B)
def ramL4:List Int:=[256,512,1024,4096]
theorem xBB (i:Nat) (h:i < 4):∃ d:Nat,ramL4[i]?.getD 0=(d:Int)/\ramN d=true:=by
 unfold ramL4;rcases i with _|_|_|_|i
 ·exact⟨256,rfl,rfl⟩
 ·exact⟨512,rfl,rfl⟩
 ·exact⟨1024,rfl,rfl⟩
 ·exact⟨4096,rfl,rfl⟩
 ·omega
theorem fBB {d:Nat} (h:ramN d=true):newL (d:Int)=List.replicate d 0:=by
 unfold newL ramI;rw[if_pos (by simp[h])];simp
theorem jMA {w w1:World} {B:Nat} {u:Value} (hb:Below w.heap.size w w1) (h:w.cell? ⟨B,0,none⟩=some u/\B < w.heap.size):w1.cell? ⟨B,0,none⟩=some u/\B < w1.heap.size:=
 ⟨fIA hb h.1 h.2,Nat.lt_of_lt_of_le h.2 hb.size⟩
theorem dEB {w:World} {B C k:Nat} {u v:Value} (hne:C≠B) (h:w.cell? ⟨B,0,none⟩=some u/\B < w.heap.size):(w.setCell ⟨C,k,none⟩ v).cell? ⟨B,0,none⟩=some u/\B < (w.setCell ⟨C,k,none⟩ v).heap.size:=
 ⟨by rw[World.cell?_setCell_far];exact h.1;exact hne,by simpa using h.2⟩
theorem lJA {w w1:World} {B C:Nat} {u:Value} (hg:w.grownBy w1 (some C)) (hne:B≠C) (h:w.cell? ⟨B,0,none⟩=some u/\B < w.heap.size):w1.cell? ⟨B,0,none⟩=some u/\B < w1.heap.size:=
 ⟨hg.cell h.1 (by intro e;simp at e;exact hne e),Nat.lt_of_lt_of_le h.2 hg.size⟩
theorem nMA (r B:Nat) (a:Option Addr) (len cap:Nat) (z:List Int) (s:Nat×Int) (w:World) (h:Drawn r B a len cap z s w) :
  Calls Tryz.prog 66 #[.pointer (some ⟨B,0,none⟩)] w (cTA r B a len cap z w):=by
 have d9:=h.lt;have bx:=BoxN.new w 30 #[.slice none 0 0];have g0:=World.grownBy_alloc w (.cells #[.slice none 0 0] 30) (some B);go_enter Tryz.func66,Tryz.ntmps66;go_wp2_with fail;have l:=lEA (w.alloc (.cells #[.slice none 0 0] 30)) ramL4 3;rw[World.size_alloc] at l;refine (aDA r B a len cap z s (w.heap.size+1) 4 4 ramL4 _ ((h.alloc _).alloc _) dQ dQ dQ yQ (fun i hi=>l i hi)).mono ?_;rintro e w1 ⟨rfl,hd1,hg1⟩;obtain⟨d,hd,k7⟩:=xBB (zAA z len s ((4:Nat):Int)).toNat (by have:=jDA z len s 4 dQ;show (zAA z len s 4).toNat < 4;omega);rw[hd];have a5:=((bx.below ((Below.refl _ _).alloc (Nat.le_refl _) _)).grown hg1 dQ);have a7:=fAA g0 (fAA (World.grownBy_alloc _ _ (some B)) hg1);generalize kBA len s ((4:Nat):Int)=s1 at hd1;clear bx g0 hg1 l hd;have CN:=fun w=>cSA (d:Int) w
 rw[fBB k7] at CN;go_wp2_with fail;refine (CN _).mono ?_;rintro e H ⟨v2,rfl,o2,b2⟩;obtain⟨a2,c2,rfl⟩:=o2.len;rw[List.length_replicate] at o2 ⊢;have q3:=dBA k7;obtain⟨g2,q2,j5,_⟩:=o2.cells (by rw[List.length_replicate];omega);rw[List.length_replicate] at j5;simp only[Value.slice.injEq] at j5;obtain⟨rfl,_,rfl⟩:=j5;have q5:=((World.ownsRow.lt o2.2) g2 rfl);have O:=hd1.below b2;have a8:=fAA a7 (nAA b2);have T:=a5.below b2;have d3:Below H.heap.size H (H.alloc (.cells #[.slice (some ⟨g2,0,none⟩) d c2] 30)):=(Below.refl _ _).alloc (Nat.le_refl _) _;have p3:BoxN (H.alloc (.cells #[.slice (some ⟨g2,0,none⟩) d c2] 30)) H.heap.size 30 #[.slice (some ⟨g2,0,none⟩) d c2]:=BoxN.new _ _ _;have J:=O.below d3;have e2:=fAA a8 (nAA d3);have c9:=T.below d3;have o3:=o2.below d3;have hs1:=a7.size;have l3:=a5.lt;have n4:=b2.size;clear hd1 a7 a5 O a8 T d3 b2 o2 CN;go_wp2_with fail;refine (yNA r B a len cap z s1 60 dQ _ J).mono ?_;rintro e w4 ⟨v4,X,s4,hX,rfl,o4,b6,hg4⟩;obtain⟨g4,q4,rfl,_⟩:=o4.cells dQ;have l0:=((World.ownsRow.lt o4.2) g4 rfl);rw[World.size_alloc] at o4 l0;have p4:=p3.grown hg4 dQ;have k2:=c9.grown hg4 dQ;have l8:=o3.grown hg4 dQ;have k3:=fAA e2 hg4;have n5:=hg4.size;rw[World.size_alloc] at n5;clear p3 c9 o3 e2 hg4 J;have m2:=j_ o4;have HX:=j_ o4.row.2;have H0:=j_ (And.intro p4 (And.intro k2 (And.intro l8 (And.intro b6 k3))));have p9:60<=X.length/\X.length<=180:=dQ;clear o4 p4 k2 l8 b6 k3 hX;go_wp2;go_loopw [5] (fun i wr=>∃ (j:Nat) (M:List Nat),j<=d/\i=.int .i64 j/\Hid (M.length=d/\OwnB wr w1.heap.size (.slice (some ⟨g2,0,none⟩) d c2) M/\OwnB wr (H.heap.size+1) (.slice (some ⟨g4,0,none⟩) X.length q4) X/\BoxN wr H.heap.size 30 #[.slice (some ⟨g2,0,none⟩) d c2]/\BoxN wr w.heap.size 30 #[.slice none 0 0]/\Drawn r B a len cap z s4 wr/\w.grownBy wr (some B))) (fun i _=>d - (intOf i).toNat)
 case atStart=>exact⟨0,List.replicate d 0,Nat.zero_le _,rfl,j_ ⟨List.length_replicate,H0.out.2.2.1,m2.out,H0.out.1,H0.out.2.1,H0.out.2.2.2.1,H0.out.2.2.2.2⟩⟩
 case round=>
  obtain⟨j,M,hj,rfl,HI⟩:=hrel;obtain⟨hM,oM,oX,pM,bM,i3,d1⟩:=HI.out;have cM:=pM.cell 0 (.slice (some ⟨g2,0,none⟩) d c2) rfl;by_cases hp:j < d
  ·obtain⟨q,hq⟩:∃ q,j / 97=q:=⟨_,rfl⟩;obtain⟨k,hk⟩:∃ k,(j*7+q) % X.length=k:=⟨_,rfl⟩;have q9:q<=4096:=dQ;have l1:k < X.length:=oQe;have y1:IntKind.i64.wrap ((j:Int)*7)=(j:Int)*7:=IntWalk.i64_in _ dQ;have y2:(j:Int).tdiv 97=(q:Int):=by rw[Int.tdiv_eq_ediv_of_nonneg dQ];omega
   have y3:IntKind.i64.wrap (q:Int)=(q:Int):=IntWalk.i64_in _ dQ;have y4:IntKind.i64.wrap ((j:Int)*7+(q:Int))=(j:Int)*7+(q:Int):=IntWalk.i64_in _ dQ;have y5:((j:Int)*7+(q:Int)).tmod (X.length:Int)=(k:Int):=by
    rw[show (j:Int)*7+(q:Int)=((j*7+q:Nat):Int) by omega,xGA _ _ dQ,hk]
   have y6:IntKind.i64.wrap (k:Int)=(k:Int):=IntWalk.i64_in _ dQ;have y7:¬ (X.length:Int)=0:=dQ;have y8:((X.length:Int)==0)=false:=beq_eq_false_iff_ne.2 dQ;have y9:¬ X.length=0:=dQ;have ij:(0:Int)<=(j:Int)/\(j:Int) < (d:Int):=dQ;have ik:(0:Int)<=(k:Int)/\(k:Int) < (X.length:Int):=dQ;obtain⟨j1,k8⟩:=wFA oM (k:=j) dQ;obtain⟨k6,_⟩:=wFA oX (k:=k) l1;obtain⟨y,hy⟩:∃ y,M.getD j 0=y:=⟨_,rfl⟩;obtain⟨x,hx⟩:∃ x,X.getD k 0=x:=⟨_,rfl⟩;have n6:x < 256:=by rw[<-hx];exact oX.1 k l1
   rw[hy] at j1;rw[hx] at k6;have j9:=j_ oM;have k1:=j_ oX;clear hy hx hk hq oM oX;go_wp2_with fail;go_still_tail 15,gQ;change wpList _ _ _ _ _ wr.drew;have k5:wr.drew.cell? ⟨g2,j,none⟩=some (.int .u8 (y:Int)):=j1;have k9:wr.drew.frozen? ⟨g2,j,none⟩=false:=k8;have c8:Hid (OwnB wr.drew w1.heap.size (.slice (some ⟨g2,0,none⟩) d c2) M):=j_ j9.out;have i4:Hid (OwnB wr.drew (H.heap.size+1) (.slice (some ⟨g4,0,none⟩) X.length q4) X):=j_ k1.out;have l9:=pM.drew;have e1:=bM.drew;have b4:Drawn r B a len cap z s4 wr.drew:=i3;have b1:w.grownBy wr.drew (some B):=fAA d1 (nAA (Below.refl _ _).drew);clear j1 k8 j9 k1 pM bM i3 d1 k6 cM HI y1 y2 y3 y4 y5 y6 y7 y8;generalize wr.drew=w5 at k5 k9 c8 i4 l9 e1 b4 b1 ⊢;obtain⟨e8,a1⟩:=oKA (k:=j) c8.out hM.symm n6;have m3:=j_ e8;have c7:=j_ a1;clear e8 a1 c8;go_wp2;go_roundw
   case rel=>
    exact⟨j+1,M.set j x,dQ,bQh,j_ ⟨by rw[List.length_set];exact hM,m3.out,gFA i4.out c7.out (fun t ht=>by simp[Value.ownBlock] at ht;omega),l9.grown c7.out dQ,e1.grown c7.out dQ,b4.grown c7.out (fun t ht=>by simp at ht;omega),sFA b1 c7.out (fun t ht=>by simp at ht;omega)⟩⟩
   case measure=>simp[intOf];omega
  ·obtain rfl:j=d:=dQ;have CF:=fun (addr:Nat) (ha:addr < 65536) W hr hx=>dFA (some ⟨g2,0,none⟩) c2 addr M (some ⟨g4,0,none⟩) q4 X ha W hr hx nQe
   rw[hM] at CF;obtain⟨P,m7,p6⟩:∃ P:Nat,zAA z len s4 4096=(P:Int)/\P < 4096:=by
    obtain⟨u0,u1⟩:=jDA z len s4 4096 dQ;exact⟨(zAA z len s4 4096).toNat,dQ,dQ⟩
   have CB:=fun W hd=>hDA r B a len cap z s4 4096 W hd
   rw[m7] at CB;generalize kBA len s4 4096=s5 at CB;have y1:IntKind.u16.wrap (P:Int)=(P:Int):=by rw[IntKind.wrap_u16];omega
   have S0:wr.drew.cell? ⟨H.heap.size,0,none⟩=some (.slice (some ⟨g2,0,none⟩) j c2)/\H.heap.size < wr.drew.heap.size:=⟨cM,pM.lt⟩;have n9:OwnB wr.drew w1.heap.size (.slice (some ⟨g2,0,none⟩) j c2) M:=oM;have o0:OwnB wr.drew (H.heap.size+1) (.slice (some ⟨g4,0,none⟩) X.length q4) X:=oX;have e1:=bM.drew;have b4:Drawn r B a len cap z s4 wr.drew:=i3;have b1:w.grownBy wr.drew (some B):=fAA d1 (nAA (Below.refl _ _).drew);have r8:=d1.size;clear pM bM i3 d1 oM oX HI;go_wp2_with fail;go_region_held3 (fun w'=>w'.cell? ⟨H.heap.size,0,none⟩=some (.slice (some ⟨g2,0,none⟩) j c2)/\H.heap.size < w'.heap.size)
    (((try dsimp only);(first|(with_reducible exact S0)|(exact lJA a1 dQ S0)|(exact jMA d6 (lJA a1 dQ S0))|(exact dEB dQ (jMA d6 (lJA a1 dQ S0))))))
    (first|(go_at_call 35;with_reducible refine (CB _ b4).mono ?_;rintro e w5 ⟨rfl,j2,a1⟩)|(go_at_call 69;with_reducible refine (CF P dQ _ (n9.grown a1 dQ).row.2 (o0.grown a1 dQ).row.2).mono ?_;rintro e w6 ⟨v6,rfl,o6,d6⟩;obtain⟨a6,c6,rfl⟩:=o6.len;have rR:=((e1.grown a1 dQ).below d6);have cR:=rR.cell 0 (.slice none 0 0) rfl;have fR:=rR.frozen 0))
   have m4:=fAA (fAA b1 a1) (nAA (row:=some B) d6);have b8:=j2.below d6;have r7:=a1.size;have d0:=(rR.set 0 (.slice a6 (fillL M P X).length c6)).cell 0 (.slice a6 (fillL M P X).length c6) rfl;go_wp2;refine bodyPost_ret (v:=ramV (.slice a6 (fillL M P X).length c6)) (by simp[results,Tryz.results66,go_sem,d0]) rfl ⟨_,fillL M P X,s5,?_,rfl,?_,?_,?_⟩
   ·unfold fillL;split
    ·rw[hIA];omega
    ·simp
   ·exact gFA (OwnB.base o6 dQ) (tGA _ _ _) (fun t ht=>by have:=((World.ownsRow.lt o6.2) t ht).1;omega)
   ·exact b8.setCell d9 _
   ·exact gCA m4 (Nat.le_refl _) _
def anyL:List Int:=[0,255,257,768,8192]
theorem tCB (i:Nat):∃ d:Nat,anyL[i]?.getD 0=(d:Int)/\d<=8192:=by
 unfold anyL;rcases i with _|_|_|_|_|i
 ·exact⟨0,rfl,dQ⟩
 ·exact⟨255,rfl,dQ⟩
 ·exact⟨257,rfl,dQ⟩
 ·exact⟨768,rfl,dQ⟩
 ·exact⟨8192,rfl,dQ⟩
 ·exact⟨0,rfl,dQ⟩
theorem bXA (r B:Nat) (a:Option Addr) (len cap:Nat) (z:List Int) (s:Nat×Int) (w:World) (h:Drawn r B a len cap z s w) :
  Calls Tryz.prog 33 #[.pointer (some ⟨B,0,none⟩)] w (cTA r B a len cap z w):=by
 have d9:=h.lt;have bx:=BoxN.new w 30 #[.slice none 0 0];have g0:=World.grownBy_alloc w (.cells #[.slice none 0 0] 30) (some B);go_enter Tryz.func33,Tryz.ntmps33;go_wp2_with fail;refine (mEA r B a len cap z s 10 _ (h.alloc _)).mono ?_;rintro e w1 ⟨rfl,hd1,hg1⟩;have a5:=bx.grown hg1 dQ;have a7:=fAA g0 hg1;have l3:=a5.lt;clear bx g0 hg1;cases ho:(zAA z len s 10==0) with
 | true=>
  generalize kBA len s 10=s1 at hd1;go_wp2_with fail;have l:=lEA w1 anyL 3;refine (aDA r B a len cap z s1 w1.heap.size 5 5 anyL _ (hd1.alloc _) dQ dQ (by have:=hd1.lt;omega) yQ (fun i hi=>l i hi)).mono ?_;rintro e H ⟨rfl,O,hg2⟩;obtain⟨d,hd,c0⟩:=tCB (zAA z len s1 ((5:Nat):Int)).toNat
  rw[hd];have T:=((a5.below ((Below.refl _ _).alloc (Nat.le_refl _) _)).grown hg2 dQ);have a8:=fAA a7 (fAA (World.grownBy_alloc _ _ (some B)) hg2);have n4:=hg2.size;generalize kBA len s1 ((5:Nat):Int)=s2 at O;clear a5 a7 hg2 l hd hd1;have n2:=fun w=>makeB d dQ w
  obtain⟨V,hV⟩:∃ V,Value.slice (some ⟨H.heap.size,0,none⟩) d d=V:=⟨_,rfl⟩;have o1:=T.lt;have c9:=T.below ((Below.refl _ _).alloc (Nat.le_refl _) (.cells (Array.replicate d (Value.int .u8 0)) 5));have cR:=c9.cell 0 (.slice none 0 0) rfl;have fR:=c9.frozen 0;have bs:=T.set 0 (.slice (some ⟨H.heap.size,0,none⟩) d d);have j3:(H.setCell ⟨w.heap.size,0,none⟩ (.slice (some ⟨H.heap.size,0,none⟩) d d)).heap.size=H.heap.size:=yQ;have d0:=(bs.below ((Below.refl _ _).alloc (Nat.le_refl _) (.cells (Array.replicate d (Value.int .u8 0)) 5))).cell 0 (.slice (some ⟨H.heap.size,0,none⟩) d d) rfl;have o3:OwnB ((H.setCell ⟨w.heap.size,0,none⟩ (.slice (some ⟨H.heap.size,0,none⟩) d d)).alloc (.cells (Array.replicate d (Value.int .u8 0)) 5)) H.heap.size (.slice (some ⟨H.heap.size,0,none⟩) d d) (List.replicate d 0):=by
   have:=zLA (H.setCell ⟨w.heap.size,0,none⟩ (.slice (some ⟨H.heap.size,0,none⟩) d d)) (List.replicate d 0) xQg (fun i hi=>mQg);rw[j3] at this;simp only[List.length_replicate,List.map_replicate,u8V,List.toArray_replicate] at this;exact this
  have J:=(O.setCell (p:=⟨w.heap.size,0,none⟩) d9 (.slice (some ⟨H.heap.size,0,none⟩) d d)).alloc (.cells (Array.replicate d (Value.int .u8 0)) 5);have e2:=fAA (gCA a8 (p:=⟨w.heap.size,0,none⟩) (Nat.le_refl _) (.slice (some ⟨H.heap.size,0,none⟩) d d)) (World.grownBy_alloc _ (.cells (Array.replicate d (Value.int .u8 0)) 5) (some B));have m1:=j_ o3;clear o3 T a8 O hV bs j3;go_wp2;refine bodyPost_ret (v:=ramV (.slice (some ⟨H.heap.size,0,none⟩) d d)) (by simp[results,Tryz.results33,go_sem,d0]) rfl ⟨_,List.replicate d 0,s2,by rw[List.length_replicate];exact c0,rfl,?_,J,e2⟩;exact OwnB.base m1.out dQ
 | false=>
  generalize kBA len s 10=s1 at hd1;go_wp2_with fail;refine (nMA r B a len cap z s1 _ hd1).mono ?_;rintro e H ⟨v2,L,s2,hL,rfl,o2,O,hg2⟩;obtain⟨a2,c2,rfl⟩:=o2.len;have T:=a5.grown hg2 dQ;have a8:=fAA a7 hg2;have cR:=T.cell 0 (.slice none 0 0) rfl;have fR:=T.frozen 0;have d0:=(T.set 0 (.slice a2 L.length c2)).cell 0 (.slice a2 L.length c2) rfl;have j8:=j_ o2;clear a5 a7 hg2 hd1 o2;go_wp2;refine bodyPost_ret (v:=ramV (.slice a2 L.length c2)) (by simp[results,Tryz.results33,go_sem,d0]) rfl ⟨_,L,s2,hL,rfl,?_,?_,?_⟩
  ·exact gFA (OwnB.base j8.out dQ) (tGA _ _ _) (fun t ht=>by have:=((World.ownsRow.lt j8.out.2) t ht).1;omega)
  ·exact O.setCell d9 _
  ·exact gCA a8 (Nat.le_refl _) _
theorem oneEv:∀ x:EvN,∀ u ∈ encEv.cells x,u.oneCell'=true:=fun x u hu=>by
 simp[encEv] at hu;rcases hu with rfl|rfl<;>rfl
theorem pIA {w:World} {lo hi:Nat} {v:Value} {L:List EvN} (h:SegG encEv w lo hi v L) (n0:hi<=w.heap.size) (l2:lo<=w.heap.size) (x:EvN) (g:Nat) (hg:BoxN w g 47 #[.int .i64 x.at',.bool x.nmi]) (hsm:L.length<=1000000) (c:Nat) :
  ∃ g' U w',(∀ ty,(Builtin.append_ #[31,31] ty #[v,.slice (some ⟨g,0,none⟩) 1 c]).run Tryz.prog w=.ok (.slice (some ⟨g',0,none⟩) (L.length+1) U) w')/\SegG encEv w' g' (g'+1) (.slice (some ⟨g',0,none⟩) (L.length+1) U) (L++[x])/\Span lo hi w w'/\((lo<=g'/\g' < hi)\/g'=w.heap.size)/\g' < w'.heap.size:=
 fGA encEv ev0 iQ 31 (.agg #[.int .i64 0,.bool false]) 16 Tryz.underlying31 oUA rfl h n0 l2 g 0 c (X:=[x]) (fun j u hu=>by
  rw[Nat.zero_add];exact hg.cell j u (by simpa [encEv] using hu)) oneEv yQ qQ qQ
theorem Drawn.span {r B:Nat} {a:Option Addr} {len cap:Nat} {z:List Int} {s:Nat×Int} {w w':World} {lo hi:Nat} (h:Drawn r B a len cap z s w) (hs:Span lo hi w w') (hB:B < lo):Drawn r B a len cap z s w':=
 ⟨h.1.kept (hs.below (by have:=h.2.2;omega) (by have:=h.lt;have:=h.2.2;omega)),(hs.block B h.lt (.inl hB)).trans h.2.1,h.2.2⟩
theorem sCA {w w1 H:World} {B lo hi:Nat} (h:w.grownBy w1 (some B)) (hs:Span lo hi w1 H) (l2:w.heap.size<=lo):w.grownBy H (some B):=
 ⟨hs.os.trans h.os,hs.tape.trans h.tape,hs.output.trans h.output,Nat.le_trans h.size hs.size,fun i hi hn=>(hs.block i (Nat.lt_of_lt_of_le hi h.size) (.inl dQ)).trans (h.block i hi hn)⟩
theorem OwnG.grown {α:Type} {e:Enc α} {w w':World} {base B:Nat} {v:Value} {L:List α} (h:OwnG e w base v L) (hg:w.grownBy w' (some B)) (hB:B < base):OwnG e w' base v L:=by
 refine World.ownsRow.kept h hg ?_;cases hv:v.ownBlock with
 | none=>exact .inl rfl
 | some g=>
  refine .inr ?_;have:=(World.ownsRow.lt h) g hv;intro e;simp at e;omega
def xTA (r B:Nat) (a:Option Addr) (len cap:Nat) (z:List Int) (w:World) (e:Ending) (w':World):Prop:=
 ∃ (v:Value) (E:List EvN) (s:Nat×Int),E.length<=3/\e=.returned v/\OwnG encEv w' w.heap.size v E/\Drawn r B a len cap z s w'/\w.grownBy w' (some B)
theorem gUA {r B:Nat} {a:Option Addr} {len cap:Nat} {z:List Int} {s:Nat×Int} {w wr:World} {v:Value} {E:List EvN} (hB:B < w.heap.size) (hO:OwnG encEv wr w.heap.size v E) (hd:Drawn r B a len cap z s wr) (hg:w.grownBy wr (some B)) (hE:E.length<=100) (x:EvN) :
  ∃ g' U w',(∀ ty,(Builtin.append_ #[31,31] ty #[v,.slice (some ⟨wr.heap.size,0,none⟩) 1 1]).run Tryz.prog (wr.alloc (.cells #[.int .i64 x.at',.bool x.nmi] 47))=.ok (.slice (some ⟨g',0,none⟩) (E.length+1) U) w') /\
   OwnG encEv w' w.heap.size (.slice (some ⟨g',0,none⟩) (E.length+1) U) (E++[x])/\Drawn r B a len cap z s w'/\w.grownBy w' (some B):=by
 have j3:=hg.size;have hk:Below wr.heap.size wr (wr.alloc (.cells #[.int .i64 x.at',.bool x.nmi] 47)):=(Below.refl _ _).alloc (Nat.le_refl _) _;have bx:=BoxN.new wr 47 #[.int .i64 x.at',.bool x.nmi];obtain⟨g',U,w',hr,hs,hsp,m9,d9⟩:=pIA ((SegG.of hO).below hk) hk.size (by rw[World.size_alloc];omega) x wr.heap.size bx dQ 1;rw[World.size_alloc] at m9;refine⟨g',U,w',hr,?_,(hd.alloc _).span hsp hB,sCA (fAA hg (World.grownBy_alloc wr _ (some B))) hsp (Nat.le_refl _)⟩;exact OwnG.up hs.1 (fun k ek=>lQc)
theorem dOA (r B:Nat) (a:Option Addr) (len cap:Nat) (z:List Int) (s:Nat×Int) (w:World) (h:Drawn r B a len cap z s w) :
  Calls Tryz.prog 34 #[.pointer (some ⟨B,0,none⟩)] w (xTA r B a len cap z w):=by
 have a3:=h.lt;obtain⟨q0,q1⟩:=jDA z len s 4 dQ;obtain⟨n,hn⟩:=Int.eq_ofNat_of_zero_le q0;rw[hn] at q1;have q8:n<=3:=dQ;have HN:=j_ hn;clear hn q0 q1;go_enter Tryz.func34,Tryz.ntmps34;go_wp2_with fail;refine (hDA r B a len cap z s 4 _ (h.alloc _)).mono ?_;rintro e w1 ⟨rfl,hd1,hg1⟩;rw[HN.out];have i9:OwnG encEv w1 w.heap.size (.slice (some ⟨w.heap.size,0,none⟩) 0 0) []:=OwnG.grown (World.ownsRow_made w #[] 0 (Nat.le_refl _) iQ rfl) hg1 a3;have i6:=fAA (World.grownBy_alloc w (.cells #[] 47) (some B)) hg1;clear h hg1;go_wp2;go_loopw [3,5] (fun out i wr=>∃ (j:Nat) (E:List EvN) (s':Nat×Int),j<=n/\E.length=j/\i=.int .i64 j/\OwnG encEv wr w.heap.size out E/\Drawn r B a len cap z s' wr/\w.grownBy wr (some B)) (fun _ i _=>n - (intOf i).toNat)
 case atStart=>exact⟨0,[],_,Nat.zero_le _,rfl,rfl,i9,hd1,i6⟩
 case round=>
  obtain⟨j,E,s',hj,rfl,rfl,hO,hd,hg⟩:=hrel;by_cases hp:E.length < n
  ·go_wp2_with fail;refine (hDA r B a len cap z s' 20 _ hd).mono ?_;rintro e H ⟨rfl,O,hg2⟩;have e7:=hO.grown hg2 a3;have e3:=fAA hg hg2;clear hO hd hg hg2;go_wp2_with fail;refine (mEA r B a len cap z _ 3 _ O).mono ?_;rintro e w3 ⟨rfl,J,hg3⟩;have a0:=e7.grown hg3 a3;have a4:=fAA e3 hg3;clear e7 O e3 hg3;obtain⟨g',c',w4,hr,j0,b6,i7⟩:=gUA a3 a0 J a4 dQ ⟨zAA z len s' 20,zAA z len (kBA len s' 20) 3==0⟩;clear a0 J a4;replace hr:=j_ hr;go_wp2_with (at_builtin;refine yAA hr.out rfl rfl rfl rfl ?_);go_roundw
   case rel=>exact⟨E.length+1,_,_,dQ,by rw[List.length_append];rfl,bQh,j0,b6,i7⟩
   case measure=>simp[intOf];omega
  ·go_wp2;go_ret;exact⟨_,E,s',dQ,rfl,hO,hd,hg⟩
structure HBT (d:Prop) (A B:Nat) (V w:World):Prop where
 own:d\/Span A B V w
 span:Span A (B+1) V w
theorem HBT.size {d:Prop} {A B:Nat} {V w:World} (h:HBT d A B V w):V.heap.size<=w.heap.size:=h.span.size
theorem HBT.start (A B:Nat) (V:World):HBT False A B V V.drew:=⟨.inr (Span.of_below _ _ (Below.refl _ _).drew),Span.of_below _ _ (Below.refl _ _).drew⟩
theorem HBT.up {d d':Prop} {A B:Nat} {V w:World} (h:HBT d A B V w) (f:d->d'):HBT d' A B V w:=⟨h.own.imp f id,h.span⟩
theorem HBT.below {d:Prop} {A B:Nat} {V w w':World} (h:HBT d A B V w) (hb:Below w.heap.size w w'):HBT d A B V w':=
 ⟨h.own.imp id (fun h=>h.trans (Span.of_below _ _ hb)),h.span.trans (Span.of_below _ _ hb)⟩
theorem HBT.draw {d d':Prop} {A B:Nat} {V w w':World} (h:HBT d A B V w) (hg:w.grownBy w' (some B)) (k4:A<=B) (hd:d'):HBT d' A B V w':=
 ⟨.inl hd,h.span.trans (Span.of_grown hg k4 (Nat.lt_succ_self _))⟩
theorem vTA {V w w':World} {lo hi P:Nat} (h:Span lo hi V w) (k:Span P (P+1) w w') (hp:V.heap.size<=P):Span lo hi V w':=
 ⟨k.os.trans h.os,k.tape.trans h.tape,k.output.trans h.output,Nat.le_trans h.size k.size,fun i hi hd=>(k.block i (Nat.lt_of_lt_of_le hi h.size) (.inl (Nat.lt_of_lt_of_le hi hp))).trans (h.block i hi hd)⟩
theorem HBT.new {d:Prop} {A B P:Nat} {V w w':World} (h:HBT d A B V w) (hs:Span P (P+1) w w') (hp:V.heap.size<=P):HBT d A B V w':=
 ⟨h.own.imp id (fun h=>vTA h hs hp),vTA h.span hs hp⟩
theorem HBT.set {d:Prop} {A B:Nat} {V w w':World} (h:HBT d A B V w) (hs:Span A (A+1) w w') (k4:A+1=B):HBT d A B V w':=
 ⟨h.own.imp id (fun h=>h.trans (hs.wide (Nat.le_refl _) dQ)),h.span.trans (hs.wide (Nat.le_refl _) dQ)⟩
theorem Drawn.span2 {r B:Nat} {a:Option Addr} {len cap:Nat} {z:List Int} {s:Nat×Int} {w w':World} {lo hi:Nat} (h:Drawn r B a len cap z s w) (hs:Span lo hi w w') (hn:r<=lo) (hB:B < lo\/hi<=B):Drawn r B a len cap z s w':=
 ⟨h.1.kept (hs.below hn (by have:=h.lt;have:=h.2.2;omega)),(hs.block B h.lt hB).trans h.2.1,h.2.2⟩
def loopL:List Int:=[0,1,2,5,254,250,3]
theorem dBB (i:Nat):∃ Q:Nat,loopL[i]?.getD 0=(Q:Int)/\Q < 256:=by
 unfold loopL;rcases i with _|_|_|_|_|_|_|i
 ·exact⟨0,rfl,dQ⟩
 ·exact⟨1,rfl,dQ⟩
 ·exact⟨2,rfl,dQ⟩
 ·exact⟨5,rfl,dQ⟩
 ·exact⟨254,rfl,dQ⟩
 ·exact⟨250,rfl,dQ⟩
 ·exact⟨3,rfl,dQ⟩
 ·exact⟨0,rfl,dQ⟩
theorem eLA (r B:Nat) (a:Option Addr) (len cap:Nat) (z:List Int) (s:Nat×Int) (w:World) (h:Drawn r B a len cap z s w) :
  Calls Tryz.prog 68 #[.pointer (some ⟨B,0,none⟩)] w (vKA r B a len cap z 3 64 w):=by
 obtain⟨i0,hi,hz0,hz1,j6⟩:=info_parts yEA;have a3:=h.lt;obtain⟨q0,q1⟩:=jDA z len s 14 dQ;obtain⟨n1,hn⟩:=Int.eq_ofNat_of_zero_le q0;rw[hn] at q1;have o5:n1<=13:=dQ;have HN:=j_ hn;clear hn q0 q1;go_enter Tryz.func68,Tryz.ntmps68;go_wp2_with fail;refine (hDA r B a len cap z s 14 _ (h.alloc _)).mono ?_;rintro e w1 ⟨rfl,hd1,hg1⟩;rw[HN.out];have i9:OwnB w1 w.heap.size (.slice (some ⟨w.heap.size,0,none⟩) 0 0) []:=OwnB.grown ⟨fun i hi=>by simp at hi,World.ownsRow_made w #[] 0 (Nat.le_refl _) iQ rfl⟩ hg1 a3;have i6:=fAA (World.grownBy_alloc w (.cells #[] 5) (some B)) hg1;clear h hg1;obtain⟨n,n3⟩:∃ n:Nat,(3:Int)+(n1:Int)=(n:Int):=⟨3+n1,dQ⟩;have o7:3<=n/\n<=16:=dQ;go_wp2;try rw[n3]
 go_loopw [3,5] (fun out i wr=>∃ (j:Nat) (L:List Nat) (s':Nat×Int),j<=n/\(L.length<=3*j/\j<=L.length)/\i=.int .i64 j/\OwnB wr w.heap.size out L/\Drawn r B a len cap z s' wr/\w.grownBy wr (some B)) (fun _ i _=>n - (intOf i).toNat)
 case atStart=>exact⟨0,[],_,Nat.zero_le _,⟨Nat.zero_le _,Nat.zero_le _⟩,rfl,i9,hd1,i6⟩
 case round=>
  obtain⟨j,L,s',hj,hL,rfl,hO,hd,hg⟩:=hrel;by_cases hp:j < n
  ·go_wp2_with fail;refine (gIA r B a len cap z s' _ hd).mono ?_;rintro e H ⟨x,s2,hx,rfl,O,hg2⟩;have e7:=hO.grown hg2 a3;have e3:=fAA hg hg2;clear hO hd hg hg2;go_wp2;go_loopw [6,7] (fun bb i wr=>∃ (y k:Nat) (s':Nat×Int),y < 256/\k<=4/\bb=.int .u8 y/\i=.int .i64 k/\OwnB wr w.heap.size _ L/\Drawn r B a len cap z s' wr/\w.grownBy wr (some B)) (fun _ i _=>4 - (intOf i).toNat)
   case atStart=>exact⟨x,0,_,hx,Nat.zero_le _,rfl,rfl,e7,O,e3⟩
   case round=>
    obtain⟨y,k,s3,hy,hk,rfl,rfl,a0,J,a4⟩:=hrel;have HK:=fun W=>sJA y hy W
    obtain⟨K,hK⟩:∃ K,eAA y=K:=⟨_,rfl⟩;rw[hK] at HK;go_upto_region 8 with fail
    go_cut [52] from 21 to 56 (fun v W=>∃ b:Bool,v=.bool b/\(b=true->k < 4)/\Below wr.heap.size wr W)
    case first=>
     by_cases b0:k < 4
     ·cases o8:(K==0) with
      | true=>
       go_wp2_with fail;refine (HK _).mono ?_;rintro e v0 ⟨rfl,r0⟩;go_wp2;go_meet;exact⟨true,rfl,fun _=>b0,r0⟩
      | false=>
       cases o9:(K==6) with
       | true=>
        go_wp2_with fail;refine (HK _).mono ?_;rintro e v0 ⟨rfl,r0⟩;go_wp2_with fail;refine (HK _).mono ?_;rintro e v1 ⟨rfl,r1⟩;go_wp2;go_meet;exact⟨true,rfl,fun _=>b0,(bstep r0 r1)⟩
       | false=>
        cases p0:(K==10) with
        | true=>
         go_wp2_with fail;refine (HK _).mono ?_;rintro e v0 ⟨rfl,r0⟩;go_wp2_with fail;refine (HK _).mono ?_;rintro e v1 ⟨rfl,r1⟩;go_wp2_with fail;refine (HK _).mono ?_;rintro e v2 ⟨rfl,r2⟩;go_wp2;go_meet;exact⟨true,rfl,fun _=>b0,(bstep (bstep r0 r1) r2)⟩
        | false=>
         cases p1:(K==9) with
         | true=>
          go_wp2_with fail;refine (HK _).mono ?_;rintro e v0 ⟨rfl,r0⟩;go_wp2_with fail;refine (HK _).mono ?_;rintro e v1 ⟨rfl,r1⟩;go_wp2_with fail;refine (HK _).mono ?_;rintro e v2 ⟨rfl,r2⟩;go_wp2_with fail;refine (HK _).mono ?_;rintro e v3 ⟨rfl,r3⟩;go_wp2;go_meet;exact⟨true,rfl,fun _=>b0,(bstep (bstep (bstep r0 r1) r2) r3)⟩
         | false=>
          cases p5:(K==8) with
          | true=>
           go_wp2_with fail;refine (HK _).mono ?_;rintro e v0 ⟨rfl,r0⟩;go_wp2_with fail;refine (HK _).mono ?_;rintro e v1 ⟨rfl,r1⟩;go_wp2_with fail;refine (HK _).mono ?_;rintro e v2 ⟨rfl,r2⟩;go_wp2_with fail;refine (HK _).mono ?_;rintro e v3 ⟨rfl,r3⟩;go_wp2_with fail;refine (HK _).mono ?_;rintro e v4 ⟨rfl,r4⟩;go_wp2;go_meet;exact⟨true,rfl,fun _=>b0,(bstep (bstep (bstep (bstep r0 r1) r2) r3) r4)⟩
          | false=>
           cases m5:(K==7) with
           | true=>
            go_wp2_with fail;refine (HK _).mono ?_;rintro e v0 ⟨rfl,r0⟩;go_wp2_with fail;refine (HK _).mono ?_;rintro e v1 ⟨rfl,r1⟩;go_wp2_with fail;refine (HK _).mono ?_;rintro e v2 ⟨rfl,r2⟩;go_wp2_with fail;refine (HK _).mono ?_;rintro e v3 ⟨rfl,r3⟩;go_wp2_with fail;refine (HK _).mono ?_;rintro e v4 ⟨rfl,r4⟩;go_wp2_with fail;refine (HK _).mono ?_;rintro e v5 ⟨rfl,r5⟩;go_wp2;go_meet;exact⟨true,rfl,fun _=>b0,(bstep (bstep (bstep (bstep (bstep r0 r1) r2) r3) r4) r5)⟩
           | false=>
            go_wp2_with fail;refine (HK _).mono ?_;rintro e v0 ⟨rfl,r0⟩;go_wp2_with fail;refine (HK _).mono ?_;rintro e v1 ⟨rfl,r1⟩;go_wp2_with fail;refine (HK _).mono ?_;rintro e v2 ⟨rfl,r2⟩;go_wp2_with fail;refine (HK _).mono ?_;rintro e v3 ⟨rfl,r3⟩;go_wp2_with fail;refine (HK _).mono ?_;rintro e v4 ⟨rfl,r4⟩;go_wp2_with fail;refine (HK _).mono ?_;rintro e v5 ⟨rfl,r5⟩;go_wp2;go_meet;exact⟨false,rfl,fun h=>(Bool.noConfusion h),(bstep (bstep (bstep (bstep (bstep r0 r1) r2) r3) r4) r5)⟩
     ·go_wp2_with fail;go_meet;exact⟨false,rfl,fun h=>(Bool.noConfusion h),Below.refl _ _⟩
    obtain⟨b,rfl,hb4,hbW⟩:=hcut;replace a0:=a0.below hbW;replace J:=J.below hbW;replace a4:=fAA a4 (nAA hbW);clear hbW;cases b with
    | true=>
     have b0:=hb4 rfl;clear hb4 HK hK;go_wp2_with fail;refine (gIA r B a len cap z s3 _ J).mono ?_;rintro e w4 ⟨x4,s4,n7,rfl,b6,hg4⟩;have j0:=a0.grown hg4 a3;have i7:=fAA a4 hg4;clear a0 J a4 hg4;go_wp2;go_roundw
     case rel=>exact⟨x4,k+1,_,n7,dQ,rfl,bQh,j0,b6,i7⟩
     case measure=>simp[intOf];omega
    | false=>
     clear hb4 hk;have l5:=a4.size;go_wp2_with (at_builtin;refine wpList_append_own _ rfl _ _ 22 rfl w.heap.size 5 i0 (.int .u8 0) 1 1 Tryz.underlying22 hi hz0 hz1 j6 rfl iQ _ _ _ rfl (World.ownsRow.alloc a0.2 _) ⟨wc.heap.size,0,none⟩ 1 1 [u8V y] rfl rfl (cell_one_new _ _ _) ?c2 ?c3 ?c4 ?c5 ?_)
     case c2=>first|rfl|(intro u hu;simp at hu;subst hu;rfl)
     case c3=>unfold maxLen;first|omega|(simp;omega)
     case c4=>first|omega|(simp;omega)
     case c5=>first|omega|(simp;omega)
     intro v5 w5 R hgrow _;have hrow:∀ k,Value.ownBlock _=some k->w.heap.size<=k:=fun k ek=>((World.ownsRow.lt a0.2) k ek).1
     have m6:w.grownBy w5 (some B):=sFA (fAA a4 (World.grownBy_alloc wc _ (some B))) hgrow hrow;have j2:=(J.alloc _).grown hgrow (fun k ek=>bQi);have e8:OwnB w5 w.heap.size v5 (L++[y]):=⟨xHA a0.1 dQ,by simpa using R⟩;clear R hgrow a0 J a4 hrow l5;obtain⟨q,hq⟩:∃ q:Nat,sAA y=q/\q<=3:=by
      obtain⟨z0,z3⟩:=mJA hy;exact⟨(sAA y).toNat,dQ,dQ⟩
     obtain⟨hq,r6⟩:=hq;have i5:=fun w=>kHA y hy w
     rw[hq] at i5;clear hq;go_wp2;go_loopw [3,8] (fun out i wr=>∃ (m:Nat) (M:List Nat) (s':Nat×Int),1<=m/\m<=3/\(M.length<=3*j+m/\j+1<=M.length)/\i=.int .i64 m/\OwnB wr w.heap.size out M/\Drawn r B a len cap z s' wr/\w.grownBy wr (some B)) (fun _ i _=>3 - (intOf i).toNat)
     case atStart=>exact⟨1,L++[y],s3,Nat.le_refl _,dQ,qQ,rfl,e8,j2,m6⟩
     case round=>
      obtain⟨m,M,s6,q6,q7,hM,rfl,hO6,b8,hG6⟩:=hrel;by_cases n2:m < q
      ·have l4:(m:Int) < (q:Int):=dQ;go_wp2_with fail;refine (i5 _).mono ?_;rintro e w7 ⟨rfl,b7⟩;have e9:=hO6.below b7;have i2:=b8.below b7;have e4:=fAA hG6 (nAA b7);clear hO6 b8 hG6 b7;go_wp2_with fail;refine (aGA r B a len cap z s6 _ i2).mono ?_;rintro e w8 ⟨y8,s8,l7,n8,rfl,c0,hg8⟩;obtain⟨Y,rfl⟩:=Int.eq_ofNat_of_zero_le l7;have hY:Y < 256:=dQ;have i1:=e9.grown hg8 a3;have e6:=fAA e4 hg8;clear e9 i2 e4 hg8 l7 n8;cases m5:(K==5) with
       | true=>
        go_wp2_with fail;refine (HK _).mono ?_;rintro e w9 ⟨rfl,b9⟩;have a9:=i1.below b9;have c1:=c0.below b9;have b5:=fAA e6 (nAA b9);clear i1 c0 e6 b9;go_wp2_with fail;have l:=lEA w9 loopL 3;refine (aDA r B a len cap z s8 w9.heap.size 7 7 loopL _ (c1.alloc _) dQ dQ (by have:=c1.lt;omega) yQ (fun i hi=>l i hi)).mono ?_;rintro e m0 ⟨rfl,hd10,hg10⟩;obtain⟨Q,hQ,p7⟩:∃ Q:Nat,loopL[(zAA z len s8 ((7:Nat):Int)).toNat]?.getD 0=(Q:Int)/\Q < 256:=dBB _;rw[hQ];have b3:=(a9.below ((Below.refl _ _).alloc (Nat.le_refl _) (.cells (loopL.map (Value.int .i64)).toArray 3))).grown hg10 a3;have d2:=fAA b5 (fAA (World.grownBy_alloc w9 _ (some B)) hg10);clear a9 c1 b5 hg10 l hQ;have j4:=d2.size;have p8:IntKind.u8.wrap (Q:Int)=(Q:Int):=by simp only[IntKind.wrap,IntKind.bits,IntKind.signed];simp;omega
        go_wp2_with (at_builtin;refine wpList_append_own _ rfl _ _ 22 rfl w.heap.size 5 i0 (.int .u8 0) 1 1 Tryz.underlying22 hi hz0 hz1 j6 rfl iQ _ _ _ rfl (World.ownsRow.alloc b3.2 _) ⟨m0.heap.size,0,none⟩ 1 1 [u8V Q] rfl rfl (cell_one_new _ _ _) ?c2 ?c3 ?c4 ?c5 ?_)
        case c2=>first|rfl|(intro u hu;simp at hu;subst hu;rfl)
        case c3=>unfold maxLen;first|omega|(simp;omega)
        case c4=>first|omega|(simp;omega)
        case c5=>first|omega|(simp;omega)
        intro j7 e0 R hgrow _;have hrow:∀ k,Value.ownBlock _=some k->w.heap.size<=k:=fun k ek=>((World.ownsRow.lt b3.2) k ek).1
        have d4:w.grownBy e0 (some B):=sFA (fAA d2 (World.grownBy_alloc m0 _ (some B))) hgrow hrow;have d8:=(hd10.alloc _).grown hgrow (fun k ek=>bQi);have d7:OwnB e0 w.heap.size j7 (M++[Q]):=⟨xHA b3.1 dQ,by simpa using R⟩;clear R hgrow b3 hd10 d2 hrow j4;go_wp2;go_roundw
        case rel=>exact⟨m+1,_,_,dQ,dQ,by rw[List.length_append];show M.length+1<=_/\j+1<=M.length+1;omega,bQh,d7,d8,d4⟩
        case measure=>simp[intOf];omega
       | false=>
        go_wp2_with fail;refine (HK _).mono ?_;rintro e w9 ⟨rfl,b9⟩;have a9:=i1.below b9;have c1:=c0.below b9;have b5:=fAA e6 (nAA b9);clear i1 c0 e6 b9;have l6:=b5.size;go_wp2_with (at_builtin;refine wpList_append_own _ rfl _ _ 22 rfl w.heap.size 5 i0 (.int .u8 0) 1 1 Tryz.underlying22 hi hz0 hz1 j6 rfl iQ _ _ _ rfl (World.ownsRow.alloc a9.2 _) ⟨w9.heap.size,0,none⟩ 1 1 [u8V Y] rfl rfl (cell_one_new _ _ _) ?c2 ?c3 ?c4 ?c5 ?_)
        case c2=>first|rfl|(intro u hu;simp at hu;subst hu;rfl)
        case c3=>unfold maxLen;first|omega|(simp;omega)
        case c4=>first|omega|(simp;omega)
        case c5=>first|omega|(simp;omega)
        intro j7 e0 R hgrow _;have hrow:∀ k,Value.ownBlock _=some k->w.heap.size<=k:=fun k ek=>((World.ownsRow.lt a9.2) k ek).1
        have d4:w.grownBy e0 (some B):=sFA (fAA b5 (World.grownBy_alloc w9 _ (some B))) hgrow hrow;have d8:=(c1.alloc _).grown hgrow (fun k ek=>bQi);have d7:OwnB e0 w.heap.size j7 (M++[Y]):=⟨xHA a9.1 dQ,by simpa using R⟩;clear R hgrow a9 c1 b5 hrow l6;go_wp2;go_roundw
        case rel=>exact⟨m+1,_,_,dQ,dQ,by rw[List.length_append];show M.length+1<=_/\j+1<=M.length+1;omega,bQh,d7,d8,d4⟩
        case measure=>simp[intOf];omega
      ·have l4:¬ (m:Int) < (q:Int):=dQ;go_wp2_with fail;refine (i5 _).mono ?_;rintro e w7 ⟨rfl,b7⟩;have e9:=hO6.below b7;have i2:=b8.below b7;have e4:=fAA hG6 (nAA b7);clear hO6 b8 hG6 b7;go_wp2;go_roundw
       case rel=>exact⟨j+1,M,_,dQ,dQ,bQh,e9,i2,e4⟩
       case measure=>simp[intOf];omega
  ·obtain rfl:j=n:=dQ;go_wp2;go_ret;exact⟨_,L,s',dQ,rfl,hO,hd,hg⟩

end Go.Proofs.YtckfdbjjjgfbfaaGreat
