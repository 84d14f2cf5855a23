import Derived.Test.YtckfdbjjjgfbfaaGreatVCut
set_option linter.unusedVariables false
set_option linter.unusedSimpArgs false
set_option maxRecDepth 100000
set_option maxHeartbeats 2000000
namespace Go.Proofs.YtckfdbjjjgfbfaaGreat
open Go.RowKit
def fZA (l B:Nat) (a:Option Addr) (len cap:Nat) (z:List Int) (w:World) (e:Ending) (w':World):Prop:=
 ∃ (x:Nat) (s:Nat×Int),x < 256/\e=.returned (.int .u8 x)/\Drawn l B a len cap z s w'/\w.grownBy w' (some B)
theorem fTA (z:List Int) (len:Nat) (s:Nat×Int):∃ x:Nat,x < 256/\byteV z len s=x:=by
 obtain⟨h0,h1⟩:=sEA z len s.1 s.2;exact⟨(byteX z len s.1 s.2).toNat,dQ,by unfold byteV;omega⟩
theorem gIA (l B:Nat) (a:Option Addr) (len cap:Nat) (z:List Int) (s:Nat×Int) (w:World) (h:Drawn l B a len cap z s w) :
  Calls Tryz.prog 99 #[.pointer (some ⟨B,0,none⟩)] w (fZA l B a len cap z w):=by
 obtain⟨x,hx,i1⟩:=fTA z len s;have i3:=j_ i1;clear i1;go_enter Tryz.func99,Tryz.ntmps99;go_wp2_with fail;refine (oDA l B a len cap z s _ h).mono ?_;rintro e J ⟨rfl,hd1,hg1⟩;rw[i3.out];clear h;go_wp2;go_loopw [3,4] (fun bb i wr=>∃ (y j:Nat) (s':Nat×Int),j<=3/\y < 256/\bb=.int .u8 y/\i=.int .i64 j/\Drawn l B a len cap z s' wr/\w.grownBy wr (some B)) (fun _ i _=>3 - (intOf i).toNat)
 case atStart=>exact⟨x,0,_,dQ,hx,rfl,rfl,hd1,hg1⟩
 case round=>
  obtain⟨y,j,s',hj,hy,rfl,rfl,hd,E⟩:=hrel;by_cases hp:j < 3
  ·cases hE:(lAA y).toList.isEmpty with
   | true=>
    obtain⟨x',j2,b8⟩:=fTA z len s';have d6:=j_ b8;clear b8;go_wp2_with fail;refine (bEA y hy _).mono ?_;rintro e w2 ⟨rfl,b2⟩;have K:=hd.below b2;go_wp2_with fail;refine (oDA l B a len cap z s' _ K).mono ?_;rintro e w3 ⟨rfl,hd3,hg3⟩;rw[d6.out];go_wp2;go_roundw
    case rel=>exact⟨x',j+1,_,dQ,j2,rfl,bQh,hd3,fAA (fAA E (nAA b2)) hg3⟩
    case measure=>simp[intOf];omega
   | false=>
    go_wp2_with fail;refine (bEA y hy _).mono ?_;rintro e w2 ⟨rfl,b2⟩;go_wp2;go_ret;exact⟨y,s',hy,rfl,hd.below b2,fAA E (nAA b2)⟩
  ·go_wp2;go_ret;exact⟨y,s',hy,rfl,hd,E⟩
theorem OwnB.grown {w w':World} {base B:Nat} {v:Value} {L:List Nat} (h:OwnB w base v L) (E:w.grownBy w' (some B)) (hB:B < base):OwnB w' base v L:=by
 refine⟨h.1,World.ownsRow.kept h.2 E ?_⟩;cases hv:v.ownBlock with
 | none=>exact .inl rfl
 | some g=>
  refine .inr ?_;have:=(World.ownsRow.lt h.2) g hv;intro e;simp at e;omega
theorem sFA {w J w2:World} {B:Nat} {row:Option Nat} (h:w.grownBy J (some B)) (E:J.grownBy w2 row) (hr:∀ k,row=some k->w.heap.size<=k):w.grownBy w2 (some B):=
 ⟨E.os.trans h.os,E.tape.trans h.tape,E.output.trans h.output,Nat.le_trans h.size E.size,fun i hi hn=>(E.block i (Nat.lt_of_lt_of_le hi h.size) (fun e=>by have:=hr i e.symm;omega)).trans (h.block i hi hn)⟩
theorem Drawn.grown {l B:Nat} {a:Option Addr} {len cap:Nat} {z:List Int} {s:Nat×Int} {w w':World} {row:Option Nat} (h:Drawn l B a len cap z s w) (E:w.grownBy w' row) (hr:∀ k,row=some k->B < k):Drawn l B a len cap z s w':=by
 have O:=h.lt;have hn:=h.2.2;refine⟨h.1.kept ⟨E.os,E.tape,E.output,E.size,fun i hi=>E.block i dQ (fun e=>by have:=hr i e.symm;omega)⟩,?_,hn⟩;exact (E.block B O (fun e=>by have:=hr B e.symm;omega)).trans h.2.1
def vKA (l B:Nat) (a:Option Addr) (len cap:Nat) (z:List Int) (n m:Nat) (w:World) (e:Ending) (w':World):Prop:=
 ∃ (v:Value) (L:List Nat) (s:Nat×Int),(L.length<=m/\n<=L.length)/\e=.returned v/\OwnB w' w.heap.size v L/\Drawn l B a len cap z s w'/\w.grownBy w' (some B)
theorem xHA {L:List Nat} {x:Nat} (h:∀ i,i < L.length->L.getD i 0 < 256) (hx:x < 256):∀ i,i < (L++[x]).length->(L++[x]).getD i 0 < 256:=by
 intro i hi;rw[List.getD];by_cases hl:i < L.length
 ·rw[List.getElem?_append_left hl];exact h i hl
 ·rw[List.length_append] at hi;simp only[List.length_cons,List.length_nil] at hi;obtain rfl:i=L.length:=dQ;simpa using hx
theorem yNA (l B:Nat) (a:Option Addr) (len cap:Nat) (z:List Int) (s:Nat×Int) (n:Nat) (hn:n<=1000) (w:World) (h:Drawn l B a len cap z s w) :
  Calls Tryz.prog 95 #[.pointer (some ⟨B,0,none⟩),.int .i64 n] w (vKA l B a len cap z n (3*n) w):=by
 obtain⟨i0,hi,hz0,hz1,i2⟩:=info_parts yEA;have e6:=h.lt;go_enter Tryz.func95,Tryz.ntmps95;go_wp2;go_loopw [5,6] (fun out i wr=>∃ (j:Nat) (L:List Nat) (s':Nat×Int),j<=n/\(L.length<=3*j/\j<=L.length)/\i=.int .i64 j/\OwnB wr w.heap.size out L/\Drawn l B a len cap z s' wr/\w.grownBy wr (some B)) (fun _ i _=>n - (intOf i).toNat)
 case atStart=>exact⟨0,[],s,Nat.zero_le _,yQ,rfl,⟨fun i hi=>by simp at hi,World.ownsRow_made w #[] 0 (Nat.le_refl _) iQ rfl⟩,h.alloc _,World.grownBy_alloc w _ (some B)⟩
 case round=>
  obtain⟨j,L,s',hj,hL,rfl,hO,hd,E⟩:=hrel;by_cases hp:j < n
  ·go_wp2_with fail;refine (gIA l B a len cap z s' _ hd).mono ?_;rintro e J ⟨x,s1,hx,rfl,hd1,hg1⟩;have b5:=hO.grown hg1 e6;have c7:=fAA E hg1;have e8:=c7.size;clear hO hd E hg1;go_wp2_with (at_builtin;refine wpList_append_own _ rfl _ _ 22 rfl w.heap.size 5 i0 (.int .u8 0) 1 1 Tryz.underlying22 hi hz0 hz1 i2 rfl iQ _ _ _ rfl (World.ownsRow.alloc b5.2 _) ⟨J.heap.size,0,none⟩ 1 1 [u8V x] rfl rfl (cell_one_new _ _ _) ?c2 ?c3 ?c4 ?c5 ?_)
   case c2=>first|rfl|(intro u hu;simp at hu;subst hu;rfl)
   case c3=>unfold maxLen;first|omega|(simp;omega)
   case c4=>first|omega|(simp;omega)
   case c5=>first|omega|(simp;omega)
   intro v2 w2 a6 R _;have hrow:∀ k,Value.ownBlock _=some k->w.heap.size<=k:=fun k ek=>((World.ownsRow.lt b5.2) k ek).1
   have i5:w.grownBy w2 (some B):=sFA (fAA c7 (World.grownBy_alloc J _ (some B))) R hrow;have K:=(hd1.alloc _).grown R (fun k ek=>bQi);have i7:OwnB w2 w.heap.size v2 (L++[x]):=⟨xHA b5.1 hx,by simpa using a6⟩;clear a6 R b5 hd1 c7 hrow e8;obtain⟨k,hk⟩:∃ k:Nat,sAA x=k/\k<=3:=by
    obtain⟨z0,z3⟩:=mJA hx;exact⟨(sAA x).toNat,dQ,dQ⟩
   obtain⟨hk,j8⟩:=hk;have b9:=fun w=>kHA x hx w
   rw[hk] at b9;clear hk;go_wp2;go_loopw [5,8] (fun out i wr=>∃ (m:Nat) (M:List Nat) (s':Nat×Int),1<=m/\m<=3/\(M.length<=3*j+m/\j+1<=M.length)/\i=.int .i64 m/\OwnB wr w.heap.size out M/\Drawn l B a len cap z s' wr/\w.grownBy wr (some B)) (fun _ i _=>3 - (intOf i).toNat)
   case atStart=>exact⟨1,L++[x],s1,Nat.le_refl _,dQ,qQ,rfl,i7,K,i5⟩
   case round=>
    obtain⟨m,M,s3,j9,k1,hM,rfl,hO3,hd3,hg3⟩:=hrel;by_cases k2:m < k
    ·have e7:(m:Int) < (k:Int):=dQ;go_wp2_with fail;refine (b9 _).mono ?_;rintro e w4 ⟨rfl,b4⟩;have b6:=hO3.below b4;have U:=hd3.below b4;have b3:=fAA hg3 (nAA b4);clear hO3 hd3 hg3 b4;go_wp2_with fail;refine (aGA l B a len cap z s3 _ U).mono ?_;rintro e w5 ⟨y,s5,j3,k3,rfl,hd5,hg5⟩;obtain⟨Y,rfl⟩:=Int.eq_ofNat_of_zero_le j3;have b7:=b6.grown hg5 e6;have c8:=fAA b3 hg5;have e9:=c8.size;clear b6 U b3 hg5;go_wp2_with (at_builtin;refine wpList_append_own _ rfl _ _ 22 rfl w.heap.size 5 i0 (.int .u8 0) 1 1 Tryz.underlying22 hi hz0 hz1 i2 rfl iQ _ _ _ rfl (World.ownsRow.alloc b7.2 _) ⟨w5.heap.size,0,none⟩ 1 1 [u8V Y] rfl rfl (cell_one_new _ _ _) ?c2 ?c3 ?c4 ?c5 ?_)
     case c2=>first|rfl|(intro u hu;simp at hu;subst hu;rfl)
     case c3=>unfold maxLen;first|omega|(simp;omega)
     case c4=>first|omega|(simp;omega)
     case c5=>first|omega|(simp;omega)
     intro v6 w6 a7 T _;have hrow:∀ k,Value.ownBlock _=some k->w.heap.size<=k:=fun k ek=>((World.ownsRow.lt b7.2) k ek).1
     have i6:w.grownBy w6 (some B):=sFA (fAA c8 (World.grownBy_alloc w5 _ (some B))) T hrow;have c9:=(hd5.alloc _).grown T (fun k ek=>bQi);have i9:OwnB w6 w.heap.size v6 (M++[Y]):=⟨xHA b7.1 dQ,by simpa using a7⟩;clear a7 T b7 hd5 c8 hrow e9;go_wp2;go_roundw
     case rel=>exact⟨m+1,M++[Y],s5,dQ,dQ,qQ,bQh,i9,c9,i6⟩
     case measure=>simp[intOf];omega
    ·have e7:¬ (m:Int) < (k:Int):=dQ;go_wp2_with fail;refine (b9 _).mono ?_;rintro e w4 ⟨rfl,b4⟩;have b6:=hO3.below b4;have U:=hd3.below b4;have b3:=fAA hg3 (nAA b4);clear hO3 hd3 hg3 b4;go_wp2;go_roundw
     case rel=>exact⟨j+1,M,s3,dQ,dQ,bQh,b6,U,b3⟩
     case measure=>simp[intOf];omega
  ·obtain rfl:j=n:=dQ;go_wp2;go_ret;exact⟨_,L,s',hL,rfl,hO,hd,E⟩
def vEB (l B:Nat) (a:Option Addr) (len cap:Nat) (z:List Int) (w:World) (e:Ending) (w':World):Prop:=
 ∃ (pc:Nat) (s:Nat×Int),pc < 65536/\e=.returned (.int .u16 pc)/\Drawn l B a len cap z s w'/\w.grownBy w' (some B)
def pcL (x:Int):List Int:=[0,255,512,4096,32768,65535,65530,x]
theorem gGB (x:Int) (h0:0<=x) (h1:x < 65536) (i:Nat):0<=(pcL x)[i]?.getD 0/\(pcL x)[i]?.getD 0 < 65536:=by
 cases hq:(pcL x)[i]? with
 | none=>simp
 | some y=>
  have hm:=List.mem_of_getElem? hq;simp only[pcL,List.mem_cons,List.not_mem_nil,or_false] at hm;simp only[Option.getD_some];omega
theorem qBB (l B:Nat) (a:Option Addr) (len cap:Nat) (z:List Int) (s:Nat×Int) (w:World) (h:Drawn l B a len cap z s w) :
  Calls Tryz.prog 97 #[.pointer (some ⟨B,0,none⟩)] w (vEB l B a len cap z w):=by
 obtain⟨b0,b1⟩:=jDA z len s 65536 dQ;go_enter Tryz.func97,Tryz.ntmps97;go_wp2_with fail;refine (hDA l B a len cap z s 65536 _ h).mono ?_;rintro e J ⟨rfl,hd1,hg1⟩;obtain⟨v,hv⟩:∃ v,zAA z len s 65536=v:=⟨_,rfl⟩;rw[hv] at b0 b1 ⊢;clear hv;go_wp2_with fail;have r:=lEA J (pcL v) 3;refine (aDA l B a len cap z _ J.heap.size 8 8 (pcL v) _ (hd1.alloc _) dQ dQ (by have:=hd1.lt;omega) yQ (fun i hi=>r i hi)).mono ?_;rintro e w2 ⟨rfl,K,hg2⟩;obtain⟨q0,q1⟩:=gGB v b0 b1 (zAA z len (kBA len s 65536) 8).toNat
 obtain⟨P,hP⟩:=Int.eq_ofNat_of_zero_le q0;rw[hP] at q1;have HP:=j_ hP;clear hP q0 r;rw[show ((8:Nat):Int)=8 from rfl,HP.out];have j0:P < 65536:=dQ;go_wp2;go_ret;exact⟨P,_,j0,rfl,K,fAA hg1 (fAA (World.grownBy_alloc J _ (some B)) hg2)⟩
theorem nRA {W J:World} {B C:Nat} {a0 a1 a2 a3 a4 a5:Value} {t:TypeId} (E:W.grownBy J (some C)) (hne:B≠C) (h:W.heap[B]?=some (.cells #[a0,a1,a2,a3,a4,a5] t (0,0))):J.heap[B]?=some (.cells #[a0,a1,a2,a3,a4,a5] t (0,0)):=
 (E.block B (Array.getElem?_eq_some_iff.1 h).1 (fun e=>hne (by cases e;rfl))).trans h
theorem free6 {J:World} {B:Nat} {a0 a1 a2 a3 a4 a5:Value} {t:TypeId} (h:J.heap[B]?=some (.cells #[a0,a1,a2,a3,a4,a5] t (0,0))) :
  J.frozen? ⟨B,0,none⟩=false/\J.frozen? ⟨B,1,none⟩=false/\J.frozen? ⟨B,2,none⟩=false/\J.frozen? ⟨B,3,none⟩=false/\J.frozen? ⟨B,4,none⟩=false/\J.frozen? ⟨B,5,none⟩=false:=by
 refine⟨?_,?_,?_,?_,?_,?_⟩;all_goals simp[World.frozen?,h]
def zWA (l B:Nat) (a:Option Addr) (len cap:Nat) (z:List Int) (w:World) (e:Ending) (w':World):Prop:=
 ∃ n v d i zf c:Bool,∃ s:Nat×Int,e=.returned (.agg #[.bool n,.bool v,.bool d,.bool i,.bool zf,.bool c])/\Drawn l B a len cap z s w'/\w.grownBy w' (some B)
theorem fOA (l B:Nat) (a:Option Addr) (len cap:Nat) (z:List Int) (s:Nat×Int) (w:World) (h:Drawn l B a len cap z s w) :
  Calls Tryz.prog 98 #[.pointer (some ⟨B,0,none⟩)] w (zWA l B a len cap z w):=by
 have O:=h.lt;obtain⟨q0,q1⟩:=sEA z len s.1 s.2;have c0:0<=byteV z len s:=q0;have c1:byteV z len s<=255:=q1;clear q0 q1;go_enter Tryz.func98,Tryz.ntmps98;go_wp2_with fail;refine (oDA l B a len cap z s _ (h.alloc _)).mono ?_;rintro e J ⟨rfl,hd1,hg1⟩;have B1:=j_ (nRA hg1 dQ (new6 w));have a8:=fAA (World.grownBy_alloc w _ (some B)) hg1;generalize byteV z len s=x at *;go_wp2_with fail;refine (hGA _ _).mono ?_;rintro e w2 ⟨rfl,hb2⟩;have B2:=j_ (keep6 hb2 B1.out);have K:=hd1.below hb2;have a9:=fAA a8 (nAA hb2);obtain⟨z2,d0,d1,d2,d3,d4,d5⟩:=bFB B2.out;obtain⟨f0,f1,f2,f3,f4,f5⟩:=free6 B2.out;go_wp2;refine bodyPost_ret (v:=.agg #[.bool (hasB x 128),.bool (hasB x 64),.bool (hasB x 8),.bool (hasB x 4),.bool (hasB x 2),.bool (hasB x 1)]) (by simp[results,Tryz.results98,go_sem,d0,d1,d2,d3,d4,d5]) rfl ⟨_,_,_,_,_,_,nextS len s,rfl,?_,?_⟩
 ·exact (((((K.setCell O _).setCell O _).setCell O _).setCell O _).setCell O _).setCell O _
 ·exact gCA (gCA (gCA (gCA (gCA (gCA a9 (Nat.le_refl _) _) (Nat.le_refl _) _) (Nat.le_refl _) _) (Nat.le_refl _) _) (Nat.le_refl _) _) (Nat.le_refl _) _
theorem BoxN.grown {w w':World} {B C:Nat} {t:TypeId} {cs:Array Value} (h:BoxN w B t cs) (E:w.grownBy w' (some C)) (hne:B≠C):BoxN w' B t cs:=(E.block B h.lt (by intro e;cases e;exact hne rfl)).trans h
def qCB (l B:Nat) (a:Option Addr) (len cap:Nat) (z:List Int) (w:World) (e:Ending) (w':World):Prop:=
 ∃ (c:CpuN) (s:Nat×Int),c.ok/\e=.returned (cpuV c)/\Drawn l B a len cap z s w'/\w.grownBy w' (some B)
def sL:List Int:=[255,253,0,1,200]
theorem sL_bd (i:Nat):∃ Q:Nat,sL[i]?.getD 0=(Q:Int)/\Q < 256:=by
 unfold sL;rcases i with _|_|_|_|_|i
 ·exact⟨255,rfl,dQ⟩
 ·exact⟨253,rfl,dQ⟩
 ·exact⟨0,rfl,dQ⟩
 ·exact⟨1,rfl,dQ⟩
 ·exact⟨200,rfl,dQ⟩
 ·exact⟨0,rfl,dQ⟩
theorem hXA (l B:Nat) (a:Option Addr) (len cap:Nat) (z:List Int) (s:Nat×Int) (w:World) (h:Drawn l B a len cap z s w) :
  Calls Tryz.prog 67 #[.pointer (some ⟨B,0,none⟩)] w (qCB l B a len cap z w):=by
 have O:=h.lt;have bx:=BoxN.new w 28 (zQ []).toArray;have g0:=World.grownBy_alloc w (.cells (zQ []).toArray 28) (some B);go_enter Tryz.func67,Tryz.ntmps67;go_wp2_with fail;refine (aGA l B a len cap z s _ (h.alloc _)).mono ?_;rintro e J ⟨x1,s1,j5,k4,rfl,hd1,hg1⟩;have d7:=bx.grown hg1 dQ;have a8:=fAA g0 hg1;clear bx g0 hg1;go_wp2_with fail;refine (aGA l B a len cap z s1 _ hd1).mono ?_;rintro e w2 ⟨x2,s2,j6,k5,rfl,K,hg2⟩;have d8:=d7.grown hg2 dQ;have a9:=fAA a8 hg2;clear d7 a8 hg2 hd1;go_wp2_with fail;refine (aGA l B a len cap z s2 _ K).mono ?_;rintro e w3 ⟨x3,s3,j7,k6,rfl,hd3,hg3⟩;have d9:=d8.grown hg3 dQ;have e2:=fAA a9 hg3;clear d8 a9 hg3 K;go_wp2_with fail;have r:=lEA w3 sL 3;refine (aDA l B a len cap z s3 w3.heap.size 5 5 sL _ (hd3.alloc _) dQ dQ (by have:=hd3.lt;omega) yQ (fun i hi=>r i hi)).mono ?_;rintro e w4 ⟨rfl,U,hg4⟩;obtain⟨Q,hQ,j1⟩:∃ Q:Nat,sL[(zAA z len s3 ((5:Nat):Int)).toNat]?.getD 0=(Q:Int)/\Q < 256:=sL_bd _;rw[hQ];have e0:=((d9.below ((Below.refl _ _).alloc (Nat.le_refl _) _)).grown hg4 dQ);have e3:=fAA e2 (fAA (World.grownBy_alloc w3 _ (some B)) hg4);generalize kBA len s3 ((5:Nat):Int)=s4 at U;clear d9 e2 hg4 hd3 r hQ;go_wp2_with fail;refine (qBB l B a len cap z s4 _ U).mono ?_;rintro e w5 ⟨P,s5,hP,rfl,hd5,hg5⟩;have e1:=e0.grown hg5 dQ;have e4:=fAA e3 hg5;clear e0 e3 hg5 U;go_wp2_with fail;refine (fOA l B a len cap z s5 _ hd5).mono ?_;rintro e w6 ⟨n,v,d,i,zf,c,s6,rfl,c9,hg6⟩;have H:=e1.grown hg6 dQ;have i4:=fAA e4 hg6;clear e1 e4 hg6 hd5;obtain⟨X1,rfl⟩:=Int.eq_ofNat_of_zero_le j5;obtain⟨X2,rfl⟩:=Int.eq_ofNat_of_zero_le j6;obtain⟨X3,rfl⟩:=Int.eq_ofNat_of_zero_le j7;have q1:X1 < 256:=dQ;have q2:X2 < 256:=dQ;have q3:X3 < 256:=dQ;have f:=fun k=>H.frozen k
 have r0:=H.cell 0 _ rfl;have r1:=H.cell 1 _ rfl;have r2:=H.cell 2 _ rfl;have r3:=H.cell 3 _ rfl;have r4:=H.cell 4 _ rfl;have r5:=H.cell 5 _ rfl;have r6:=H.cell 6 _ rfl;have r7:=H.cell 7 _ rfl;have r8:=H.cell 8 _ rfl;have r9:=H.cell 9 _ rfl;have j4:=H.cell 10 _ rfl;go_wp2;refine bodyPost_ret (v:=cpuV ⟨X1,X2,X3,Q,P,n,v,d,i,zf,c⟩) (by simp[results,Tryz.results67,go_sem,r0,r1,r2,r3,r4,r5,r6,r7,r8,r9,j4]) rfl ⟨⟨X1,X2,X3,Q,P,n,v,d,i,zf,c⟩,s6,⟨q1,q2,q3,j1,hP⟩,rfl,?_,?_⟩
 ·repeat(any_goals(first|(with_reducible exact c9)|(with_reducible exact O)|(with_reducible refine Drawn.setCell ?_ ?_ _)))
 ·repeat(any_goals(first|(with_reducible exact i4)|(with_reducible exact Nat.le_refl _)|(with_reducible refine gCA ?_ ?_ _)))

end Go.Proofs.YtckfdbjjjgfbfaaGreat
