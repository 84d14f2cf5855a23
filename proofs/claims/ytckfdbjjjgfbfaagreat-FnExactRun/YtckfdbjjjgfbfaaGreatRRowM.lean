import Derived.Test.YtckfdbjjjgfbfaaGreatRPhr
import Derived.Test.YtckfdbjjjgfbfaaGreatRRowH
set_option linter.unusedVariables false
set_option linter.unusedSimpArgs false
set_option maxRecDepth 100000
namespace Go.Proofs.YtckfdbjjjgfbfaaGreat
open Go.RowKit
def cCA {α:Type} (f:Nat->α) (m k n:Nat):List α:=(List.range n).map fun j=>f (k+m*j)
theorem rEA {α:Type} (f:Nat->α) (m k n:Nat):(cCA f m k n).length=n:=by simp[cCA]
theorem eOA {α:Type} (f:Nat->α) (m k n j:Nat) (hj:j < (cCA f m k n).length):(cCA f m k n)[j]=f (k+m*j):=by simp[cCA]
def sCA {α:Type} (f:Nat->α) (m k:Nat) (L:List α) (j:Nat):List α:=cCA f m k j++L.drop j
theorem hIA {α:Type} (f:Nat->α) (m k:Nat) (L:List α) (j:Nat) (hj:j<=L.length):(sCA f m k L j).length=L.length:=by simp[sCA,rEA];omega
theorem nHA {α:Type} (f:Nat->α) (m k:Nat) (L:List α):sCA f m k L 0=L:=by simp[sCA,cCA]
theorem gIA {α:Type} (f:Nat->α) (m k:Nat) (L:List α):sCA f m k L L.length=cCA f m k L.length:=by simp[sCA]
theorem iHA {α:Type} (f:Nat->α) (m k:Nat) (L:List α) (j:Nat) (hj:j < L.length):(sCA f m k L j).set j (f (k+m*j))=sCA f m k L (j+1):=by
 unfold sCA;rw[List.set_append_right _ _ (by rw[rEA];exact Nat.le_refl _),rEA,Nat.sub_self,List.drop_eq_getElem_cons hj,List.set_cons_zero];simp[cCA,List.range_succ]
def markI (k:Nat):Int:=(k:Int)
def vDA (k:Nat):CpuN:=⟨k % 256,(k+1) % 256,(k+2) % 256,(k+3) % 256,(k+4) % 65536,(k+5) % 3==0,(k+6) % 3==0,(k+7) % 3==0,(k+8) % 3==0,(k+9) % 3==0,(k+10) % 3==0⟩
def tGA (k:Nat):EvN:=⟨(k:Int),(k+1) % 3==0⟩
theorem SegG.form {α:Type} {e:Enc α} {w:World} {lo hi:Nat} {a:Option Addr} {n cap:Nat} {L:List α} (h:SegG e w lo hi (.slice a n cap) L) (h0:0 < L.length):∃ g,a=some ⟨g,0,Option.none⟩/\n=L.length/\lo<=g/\g < hi/\OwnG e w lo (.slice (some ⟨g,0,Option.none⟩) L.length cap) L:=by
 obtain⟨h1,h2⟩:=h;have W:=h1;rcases h1.2 with ⟨_,Q⟩|⟨g,cp,a3,hv,hb,O,_⟩
 ·omega
 ·simp only[Value.slice.injEq] at hv;obtain⟨rfl,rfl,rfl⟩:=hv;exact⟨g,rfl,rfl,hb,h2 g rfl,W⟩
theorem cLA (K:Nat):encI.cells (markI K)=[.int .i64 ((K:Int))]:=by
 have h0:(.int .i64 (K:Int):Value)=.int .i64 ((K:Int)):=rfl;show [(.int .i64 (K:Int):Value)]=_;rfl
theorem lJA (K:Nat):yAA.cells (vDA K)=[.int .u8 (((K:Int)) % 256),.int .u8 (((K:Int)+1) % 256),.int .u8 (((K:Int)+1+1) % 256),.int .u8 (((K:Int)+1+1+1) % 256),.int .u16 (IntKind.u16.wrap ((K:Int)+1+1+1+1)),.bool (((K:Int)+1+1+1+1+1) % 3==0),.bool (((K:Int)+1+1+1+1+1+1) % 3==0),.bool (((K:Int)+1+1+1+1+1+1+1) % 3==0),.bool (((K:Int)+1+1+1+1+1+1+1+1) % 3==0),.bool (((K:Int)+1+1+1+1+1+1+1+1+1) % 3==0),.bool (((K:Int)+1+1+1+1+1+1+1+1+1+1) % 3==0)]:=by
 have h0:(.int .u8 ((K % 256:Nat):Int):Value)=.int .u8 (((K:Int)) % 256):=by rw[show (((K % 256:Nat):Int))=(K:Int) % 256 by omega]
 have h1:(.int .u8 (((K+1) % 256:Nat):Int):Value)=.int .u8 (((K:Int)+1) % 256):=by rw[show ((((K+1) % 256:Nat):Int))=((K:Int)+1) % 256 by omega]
 have h2:(.int .u8 (((K+2) % 256:Nat):Int):Value)=.int .u8 (((K:Int)+1+1) % 256):=by rw[show ((((K+2) % 256:Nat):Int))=((K:Int)+1+1) % 256 by omega]
 have h3:(.int .u8 (((K+3) % 256:Nat):Int):Value)=.int .u8 (((K:Int)+1+1+1) % 256):=by rw[show ((((K+3) % 256:Nat):Int))=((K:Int)+1+1+1) % 256 by omega]
 have h4:(.int .u16 (((K+4) % 65536:Nat):Int):Value)=.int .u16 (IntKind.u16.wrap ((K:Int)+1+1+1+1)):=by rw[show IntKind.u16.wrap ((K:Int)+1+1+1+1)=((K:Int)+1+1+1+1) % 65536 by simp[IntKind.wrap,IntKind.bits,IntKind.signed],show ((((K+4) % 65536:Nat):Int))=((K:Int)+1+1+1+1) % 65536 by omega]
 have h5:(.bool ((K+5) % 3==0):Value)=.bool (((K:Int)+1+1+1+1+1) % 3==0):=by rw[show ((K+5) % 3==0)=(((K:Int)+1+1+1+1+1) % 3==0) by rw[Bool.eq_iff_iff];simp only[beq_iff_eq];omega]
 have h6:(.bool ((K+6) % 3==0):Value)=.bool (((K:Int)+1+1+1+1+1+1) % 3==0):=by rw[show ((K+6) % 3==0)=(((K:Int)+1+1+1+1+1+1) % 3==0) by rw[Bool.eq_iff_iff];simp only[beq_iff_eq];omega]
 have h7:(.bool ((K+7) % 3==0):Value)=.bool (((K:Int)+1+1+1+1+1+1+1) % 3==0):=by rw[show ((K+7) % 3==0)=(((K:Int)+1+1+1+1+1+1+1) % 3==0) by rw[Bool.eq_iff_iff];simp only[beq_iff_eq];omega]
 have h8:(.bool ((K+8) % 3==0):Value)=.bool (((K:Int)+1+1+1+1+1+1+1+1) % 3==0):=by rw[show ((K+8) % 3==0)=(((K:Int)+1+1+1+1+1+1+1+1) % 3==0) by rw[Bool.eq_iff_iff];simp only[beq_iff_eq];omega]
 have h9:(.bool ((K+9) % 3==0):Value)=.bool (((K:Int)+1+1+1+1+1+1+1+1+1) % 3==0):=by rw[show ((K+9) % 3==0)=(((K:Int)+1+1+1+1+1+1+1+1+1) % 3==0) by rw[Bool.eq_iff_iff];simp only[beq_iff_eq];omega]
 have h10:(.bool ((K+10) % 3==0):Value)=.bool (((K:Int)+1+1+1+1+1+1+1+1+1+1) % 3==0):=by rw[show ((K+10) % 3==0)=(((K:Int)+1+1+1+1+1+1+1+1+1+1) % 3==0) by rw[Bool.eq_iff_iff];simp only[beq_iff_eq];omega]
 show [(.int .u8 ((K % 256:Nat):Int):Value),(.int .u8 (((K+1) % 256:Nat):Int):Value),(.int .u8 (((K+2) % 256:Nat):Int):Value),(.int .u8 (((K+3) % 256:Nat):Int):Value),(.int .u16 (((K+4) % 65536:Nat):Int):Value),(.bool ((K+5) % 3==0):Value),(.bool ((K+6) % 3==0):Value),(.bool ((K+7) % 3==0):Value),(.bool ((K+8) % 3==0):Value),(.bool ((K+9) % 3==0):Value),(.bool ((K+10) % 3==0):Value)]=_;rw[h0,h1,h2,h3,h4,h5,h6,h7,h8,h9,h10]
theorem yPA (K:Nat):encEv.cells (tGA K)=[.int .i64 ((K:Int)),.bool (((K:Int)+1) % 3==0)]:=by
 have h0:(.int .i64 (K:Int):Value)=.int .i64 ((K:Int)):=rfl;have h1:(.bool ((K+1) % 3==0):Value)=.bool (((K:Int)+1) % 3==0):=by rw[show ((K+1) % 3==0)=(((K:Int)+1) % 3==0) by rw[Bool.eq_iff_iff];simp only[beq_iff_eq];omega]
 show [(.int .i64 (K:Int):Value),(.bool ((K+1) % 3==0):Value)]=_;rw[h1]
theorem wSA (g cap k0 base:Nat) (L:List Int) (w:World) (T:L.length<=1048576) (hk:k0<=100000000) (h:OwnG encI w base (.slice (some ⟨g,0,none⟩) L.length cap) L) :
  Calls Tryz.prog 60 #[.slice (some ⟨g,0,none⟩) L.length cap,.int .i64 k0] w fun e w'=>e=.returned (.int .i64 (k0+1*L.length:Nat))/\OwnG encI w' base (.slice (some ⟨g,0,none⟩) L.length cap) (cCA markI 1 k0 L.length)/\w.grownBy w' (some g):=by
 have H:=hQ h;clear h;go_enter Tryz.func60,Tryz.ntmps60;go_wp2;go_loopw [1,5] (fun B i wr=>∃ (j:Nat),j<=L.length/\i=.int .i64 j/\B=.int .i64 (k0+1*j:Nat)/\Hid (OwnG encI wr base (.slice (some ⟨g,0,none⟩) L.length cap) (sCA markI 1 k0 L j)/\w.grownBy wr (some g))) (fun _ i _=>L.length - (intOf i).toNat)
 case atStart=>exact⟨0,Nat.zero_le _,rfl,rfl,hQ ⟨by rw[nHA];exact H.out,World.grownBy.refl _ _⟩⟩
 case round=>
  obtain⟨j,hj,rfl,rfl,HO⟩:=hrel;by_cases hp:j < L.length
  ·have HLN:=hQ (hIA markI 1 k0 L j hj);have l:OwnG encI wr base (.slice (some ⟨g,0,none⟩) (sCA markI 1 k0 L j).length cap) (sCA markI 1 k0 L j):=by rw[HLN.out];exact HO.out.1
   have hst:=zIA l j gQb (markI (k0+1*j));rw[iHA _ _ _ _ _ hp,HLN.out,cLA,show j*encI.m=j from Nat.mul_one j] at hst;have y0:=sBA l (j);obtain⟨u0,v0⟩:∃ u,wr.cell? ⟨g,j,none⟩=some u:=by
    have:=qDA l j gQb 0 iQ;rw[List.getElem?_eq_getElem (by rw[encI.len];decide)] at this;exact⟨_,by simpa [encI] using this⟩
   obtain⟨K,z⟩:∃ K,k0+1*j=K:=⟨_,rfl⟩;rw[z] at hst ⊢;have HST:=hQ (And.intro hst.1 (fDA HO.out.2 hst.2));have J:K<=200000000:=dQ;have HK:=hQ z;clear l hst z HO;have U:(0:Int)<=(j:Int)/\(j:Int) < (L.length:Int):=dQ;go_wp2;go_roundw
   case rel=>exact⟨j+1,dQ,bQe,eQh,HST⟩
   case measure=>simp[intOf];omega
  ·obtain rfl:j=L.length:=dQ;obtain⟨l,E⟩:=HO.out;rw[gIA] at l;clear HO;go_wp2;go_ret;exact⟨rfl,l,E⟩
theorem iOA (a:Option Addr) (cap k0:Nat) (w:World) (hk:k0<=100000000) :
  Calls Tryz.prog 60 #[.slice a 0 cap,.int .i64 k0] w fun e w'=>e=.returned (.int .i64 (k0:Nat))/\w=w':=by
 go_enter Tryz.func60,Tryz.ntmps60;go_wp2;go_loopw [1,5] (fun B i wr=>i=.int .i64 0/\B=.int .i64 k0/\wr=w) (fun _ _ _=>0)
 case atStart=>exact⟨rfl,rfl,rfl⟩
 case round=>
  obtain⟨rfl,rfl,rfl⟩:=hrel;go_wp2;go_ret;exact⟨rfl,rfl⟩
theorem kVA (a:Option Addr) (cap k0 lo hi:Nat) (L:List Int) (w:World) (R:L.length<=1048576) (hk:k0<=100000000) (h:SegG encI w lo hi (.slice a L.length cap) L) :
  Calls Tryz.prog 60 #[.slice a L.length cap,.int .i64 k0] w fun e w'=>e=.returned (.int .i64 (k0+1*L.length:Nat))/\SegG encI w' lo hi (.slice a L.length cap) (cCA markI 1 k0 L.length)/\Span lo hi w w':=by
 by_cases h0:L.length=0
 ·obtain rfl:L=[]:=List.length_eq_zero_iff.1 h0;refine (iOA a cap k0 w hk).mono ?_;rintro e w' ⟨rfl,rfl⟩;exact⟨rfl,h,Span.of_below _ _ (Below.refl _ _)⟩
 ·obtain⟨g,rfl,_,h1,h2,ho⟩:=h.form dQ;refine (wSA g cap k0 lo L w R hk ho).mono ?_;rintro e w' ⟨rfl,ho',O⟩;exact⟨rfl,⟨ho',h.2⟩,Span.of_grown O h1 h2⟩
theorem eTA (g cap k0 base:Nat) (L:List CpuN) (w:World) (T:L.length<=1048576) (hk:k0<=100000000) (h:OwnG yAA w base (.slice (some ⟨g,0,none⟩) L.length cap) L) :
  Calls Tryz.prog 61 #[.slice (some ⟨g,0,none⟩) L.length cap,.int .i64 k0] w fun e w'=>e=.returned (.int .i64 (k0+11*L.length:Nat))/\OwnG yAA w' base (.slice (some ⟨g,0,none⟩) L.length cap) (cCA vDA 11 k0 L.length)/\w.grownBy w' (some g):=by
 have H:=hQ h;clear h;go_enter Tryz.func61,Tryz.ntmps61;go_wp2;go_loopw [1,5] (fun B i wr=>∃ (j:Nat),j<=L.length/\i=.int .i64 j/\B=.int .i64 (k0+11*j:Nat)/\Hid (OwnG yAA wr base (.slice (some ⟨g,0,none⟩) L.length cap) (sCA vDA 11 k0 L j)/\w.grownBy wr (some g))) (fun _ i _=>L.length - (intOf i).toNat)
 case atStart=>exact⟨0,Nat.zero_le _,rfl,rfl,hQ ⟨by rw[nHA];exact H.out,World.grownBy.refl _ _⟩⟩
 case round=>
  obtain⟨j,hj,rfl,rfl,HO⟩:=hrel;by_cases hp:j < L.length
  ·have HLN:=hQ (hIA vDA 11 k0 L j hj);have l:OwnG yAA wr base (.slice (some ⟨g,0,none⟩) (sCA vDA 11 k0 L j).length cap) (sCA vDA 11 k0 L j):=by rw[HLN.out];exact HO.out.1
   have hst:=zIA l j gQb (vDA (k0+11*j));rw[iHA _ _ _ _ _ hp,HLN.out,lJA] at hst;have y0:=sBA l (j*11);obtain⟨u0,v0⟩:∃ u,wr.cell? ⟨g,j*11,none⟩=some u:=by
    have:=qDA l j gQb 0 iQ;rw[List.getElem?_eq_getElem cQe] at this;exact⟨_,fQd⟩
   have y1:=sBA l (j*11+1);obtain⟨u1,v1⟩:∃ u,wr.cell? ⟨g,j*11+1,none⟩=some u:=by
    have:=qDA l j gQb 1 iQ;rw[List.getElem?_eq_getElem cQe] at this;exact⟨_,fQd⟩
   have y2:=sBA l (j*11+2);obtain⟨u2,v2⟩:∃ u,wr.cell? ⟨g,j*11+2,none⟩=some u:=by
    have:=qDA l j gQb 2 iQ;rw[List.getElem?_eq_getElem cQe] at this;exact⟨_,fQd⟩
   have y3:=sBA l (j*11+3);obtain⟨u3,v3⟩:∃ u,wr.cell? ⟨g,j*11+3,none⟩=some u:=by
    have:=qDA l j gQb 3 iQ;rw[List.getElem?_eq_getElem cQe] at this;exact⟨_,fQd⟩
   have y4:=sBA l (j*11+4);obtain⟨u4,v4⟩:∃ u,wr.cell? ⟨g,j*11+4,none⟩=some u:=by
    have:=qDA l j gQb 4 iQ;rw[List.getElem?_eq_getElem cQe] at this;exact⟨_,fQd⟩
   have y5:=sBA l (j*11+5);obtain⟨u5,v5⟩:∃ u,wr.cell? ⟨g,j*11+5,none⟩=some u:=by
    have:=qDA l j gQb 5 iQ;rw[List.getElem?_eq_getElem cQe] at this;exact⟨_,fQd⟩
   have y6:=sBA l (j*11+6);obtain⟨u6,v6⟩:∃ u,wr.cell? ⟨g,j*11+6,none⟩=some u:=by
    have:=qDA l j gQb 6 iQ;rw[List.getElem?_eq_getElem cQe] at this;exact⟨_,fQd⟩
   have y7:=sBA l (j*11+7);obtain⟨u7,v7⟩:∃ u,wr.cell? ⟨g,j*11+7,none⟩=some u:=by
    have:=qDA l j gQb 7 iQ;rw[List.getElem?_eq_getElem cQe] at this;exact⟨_,fQd⟩
   have y8:=sBA l (j*11+8);obtain⟨u8,v8⟩:∃ u,wr.cell? ⟨g,j*11+8,none⟩=some u:=by
    have:=qDA l j gQb 8 iQ;rw[List.getElem?_eq_getElem cQe] at this;exact⟨_,fQd⟩
   have y9:=sBA l (j*11+9);obtain⟨u9,v9⟩:∃ u,wr.cell? ⟨g,j*11+9,none⟩=some u:=by
    have:=qDA l j gQb 9 iQ;rw[List.getElem?_eq_getElem cQe] at this;exact⟨_,fQd⟩
   have a2:=sBA l (j*11+10);obtain⟨a4,a1⟩:∃ u,wr.cell? ⟨g,j*11+10,none⟩=some u:=by
    have:=qDA l j gQb 10 iQ;rw[List.getElem?_eq_getElem cQe] at this;exact⟨_,fQd⟩
   obtain⟨K,z⟩:∃ K,k0+11*j=K:=⟨_,rfl⟩;rw[z] at hst ⊢;have HST:=hQ (And.intro hst.1 (fDA HO.out.2 hst.2));have J:K<=200000000:=dQ;have HK:=hQ z;clear l hst z HO;have U:(0:Int)<=(j:Int)/\(j:Int) < (L.length:Int):=dQ;go_wp2;go_roundw
   case rel=>exact⟨j+1,dQ,bQe,eQh,HST⟩
   case measure=>simp[intOf];omega
  ·obtain rfl:j=L.length:=dQ;obtain⟨l,E⟩:=HO.out;rw[gIA] at l;clear HO;go_wp2;go_ret;exact⟨rfl,l,E⟩
theorem zOA (a:Option Addr) (cap k0:Nat) (w:World) (hk:k0<=100000000) :
  Calls Tryz.prog 61 #[.slice a 0 cap,.int .i64 k0] w fun e w'=>e=.returned (.int .i64 (k0:Nat))/\w=w':=by
 go_enter Tryz.func61,Tryz.ntmps61;go_wp2;go_loopw [1,5] (fun B i wr=>i=.int .i64 0/\B=.int .i64 k0/\wr=w) (fun _ _ _=>0)
 case atStart=>exact⟨rfl,rfl,rfl⟩
 case round=>
  obtain⟨rfl,rfl,rfl⟩:=hrel;go_wp2;go_ret;exact⟨rfl,rfl⟩
theorem yUA (a:Option Addr) (cap k0 lo hi:Nat) (L:List CpuN) (w:World) (R:L.length<=1048576) (hk:k0<=100000000) (h:SegG yAA w lo hi (.slice a L.length cap) L) :
  Calls Tryz.prog 61 #[.slice a L.length cap,.int .i64 k0] w fun e w'=>e=.returned (.int .i64 (k0+11*L.length:Nat))/\SegG yAA w' lo hi (.slice a L.length cap) (cCA vDA 11 k0 L.length)/\Span lo hi w w':=by
 by_cases h0:L.length=0
 ·obtain rfl:L=[]:=List.length_eq_zero_iff.1 h0;refine (zOA a cap k0 w hk).mono ?_;rintro e w' ⟨rfl,rfl⟩;exact⟨rfl,h,Span.of_below _ _ (Below.refl _ _)⟩
 ·obtain⟨g,rfl,_,h1,h2,ho⟩:=h.form dQ;refine (eTA g cap k0 lo L w R hk ho).mono ?_;rintro e w' ⟨rfl,ho',O⟩;exact⟨rfl,⟨ho',h.2⟩,Span.of_grown O h1 h2⟩
theorem fPA (g cap k0 base:Nat) (L:List EvN) (w:World) (T:L.length<=1048576) (hk:k0<=100000000) (h:OwnG encEv w base (.slice (some ⟨g,0,none⟩) L.length cap) L) :
  Calls Tryz.prog 27 #[.slice (some ⟨g,0,none⟩) L.length cap,.int .i64 k0] w fun e w'=>e=.returned (.int .i64 (k0+2*L.length:Nat))/\OwnG encEv w' base (.slice (some ⟨g,0,none⟩) L.length cap) (cCA tGA 2 k0 L.length)/\w.grownBy w' (some g):=by
 have H:=hQ h;clear h;go_enter Tryz.func27,Tryz.ntmps27;go_wp2;go_loopw [1,5] (fun B i wr=>∃ (j:Nat),j<=L.length/\i=.int .i64 j/\B=.int .i64 (k0+2*j:Nat)/\Hid (OwnG encEv wr base (.slice (some ⟨g,0,none⟩) L.length cap) (sCA tGA 2 k0 L j)/\w.grownBy wr (some g))) (fun _ i _=>L.length - (intOf i).toNat)
 case atStart=>exact⟨0,Nat.zero_le _,rfl,rfl,hQ ⟨by rw[nHA];exact H.out,World.grownBy.refl _ _⟩⟩
 case round=>
  obtain⟨j,hj,rfl,rfl,HO⟩:=hrel;by_cases hp:j < L.length
  ·have HLN:=hQ (hIA tGA 2 k0 L j hj);have l:OwnG encEv wr base (.slice (some ⟨g,0,none⟩) (sCA tGA 2 k0 L j).length cap) (sCA tGA 2 k0 L j):=by rw[HLN.out];exact HO.out.1
   have hst:=zIA l j gQb (tGA (k0+2*j));rw[iHA _ _ _ _ _ hp,HLN.out,yPA] at hst;have y0:=sBA l (j*2);obtain⟨u0,v0⟩:∃ u,wr.cell? ⟨g,j*2,none⟩=some u:=by
    have:=qDA l j gQb 0 iQ;rw[List.getElem?_eq_getElem (by rw[encEv.len];decide)] at this;exact⟨_,jQi⟩
   have y1:=sBA l (j*2+1);obtain⟨u1,v1⟩:∃ u,wr.cell? ⟨g,j*2+1,none⟩=some u:=by
    have:=qDA l j gQb 1 iQ;rw[List.getElem?_eq_getElem (by rw[encEv.len];decide)] at this;exact⟨_,jQi⟩
   obtain⟨K,z⟩:∃ K,k0+2*j=K:=⟨_,rfl⟩;rw[z] at hst ⊢;have HST:=hQ (And.intro hst.1 (fDA HO.out.2 hst.2));have J:K<=200000000:=dQ;have HK:=hQ z;clear l hst z HO;have U:(0:Int)<=(j:Int)/\(j:Int) < (L.length:Int):=dQ;go_wp2;go_roundw
   case rel=>exact⟨j+1,dQ,bQe,eQh,HST⟩
   case measure=>simp[intOf];omega
  ·obtain rfl:j=L.length:=dQ;obtain⟨l,E⟩:=HO.out;rw[gIA] at l;clear HO;go_wp2;go_ret;exact⟨rfl,l,E⟩
theorem cMA (a:Option Addr) (cap k0:Nat) (w:World) (hk:k0<=100000000) :
  Calls Tryz.prog 27 #[.slice a 0 cap,.int .i64 k0] w fun e w'=>e=.returned (.int .i64 (k0:Nat))/\w=w':=by
 go_enter Tryz.func27,Tryz.ntmps27;go_wp2;go_loopw [1,5] (fun B i wr=>i=.int .i64 0/\B=.int .i64 k0/\wr=w) (fun _ _ _=>0)
 case atStart=>exact⟨rfl,rfl,rfl⟩
 case round=>
  obtain⟨rfl,rfl,rfl⟩:=hrel;go_wp2;go_ret;exact⟨rfl,rfl⟩
theorem rOA (a:Option Addr) (cap k0 lo hi:Nat) (L:List EvN) (w:World) (R:L.length<=1048576) (hk:k0<=100000000) (h:SegG encEv w lo hi (.slice a L.length cap) L) :
  Calls Tryz.prog 27 #[.slice a L.length cap,.int .i64 k0] w fun e w'=>e=.returned (.int .i64 (k0+2*L.length:Nat))/\SegG encEv w' lo hi (.slice a L.length cap) (cCA tGA 2 k0 L.length)/\Span lo hi w w':=by
 by_cases h0:L.length=0
 ·obtain rfl:L=[]:=List.length_eq_zero_iff.1 h0;refine (cMA a cap k0 w hk).mono ?_;rintro e w' ⟨rfl,rfl⟩;exact⟨rfl,h,Span.of_below _ _ (Below.refl _ _)⟩
 ·obtain⟨g,rfl,_,h1,h2,ho⟩:=h.form dQ;refine (fPA g cap k0 lo L w R hk ho).mono ?_;rintro e w' ⟨rfl,ho',O⟩;exact⟨rfl,⟨ho',h.2⟩,Span.of_grown O h1 h2⟩
theorem dUA (a:Option Addr) (n cap k0:Nat) (w:World) (Q:n<=1048576) (hk:k0<=100000000) (h:RowG encI w a (cCA markI 1 k0 n)) :
  Calls Tryz.prog 64 #[.slice a n cap,.int .i64 k0] w fun e w'=>e=.returned (.int .i64 (k0+1*n:Nat))/\Below w.heap.size w w':=by
 have H:=hQ h;clear h;go_enter Tryz.func64,Tryz.ntmps64;go_wp2;go_loop [1,5] (fun B i=>∃ (j:Nat),j<=n/\i=.int .i64 j/\B=.int .i64 (k0+1*j:Nat)) (fun _ i=>n - (intOf i).toNat)
 case atStart=>exact⟨0,Nat.zero_le _,rfl,rfl⟩
 case round=>
  obtain⟨j,hj,rfl,rfl⟩:=hrel;by_cases hp:j < n
  ·obtain⟨g,o,rfl,_,hc⟩:=H.out (by rw[rEA];omega);have r:=hc j (by rw[rEA];exact hp);rw[eOA,cLA] at r;obtain⟨K,z⟩:∃ K,k0+1*j=K:=⟨_,rfl⟩;rw[z] at r ⊢;have p0:w.cell? ⟨g,o+j,none⟩=some (.int .i64 ((K:Int))):=by simpa [encI] using r 0 iQ
   have J:K<=200000000:=dQ;have HK:=hQ z;have U:(0:Int)<=(j:Int)/\(j:Int) < (n:Int):=dQ;clear hc r z;go_wp2;go_round
   case rel=>exact⟨j+1,dQ,bQe,eQh⟩
   case measure=>simp[intOf];omega
  ·obtain rfl:j=n:=dQ;go_wp2;go_ret;exact⟨rfl,Below.refl _ _⟩
theorem hTA (a:Option Addr) (cap k0 n lo hi:Nat) (w:World) (Q:n<=1048576) (hk:k0<=100000000) (h:SegG encI w lo hi (.slice a n cap) (cCA markI 1 k0 n)) :
  Calls Tryz.prog 64 #[.slice a n cap,.int .i64 k0] w fun e w'=>e=.returned (.int .i64 (k0+1*n:Nat))/\Below w.heap.size w w':=dUA a n cap k0 w Q hk h.row
theorem cUA (a:Option Addr) (n cap k0:Nat) (w:World) (Q:n<=1048576) (hk:k0<=100000000) (h:RowG yAA w a (cCA vDA 11 k0 n)) :
  Calls Tryz.prog 65 #[.slice a n cap,.int .i64 k0] w fun e w'=>e=.returned (.int .i64 (k0+11*n:Nat))/\Below w.heap.size w w':=by
 have H:=hQ h;clear h;go_enter Tryz.func65,Tryz.ntmps65;go_wp2;go_loop [1,5] (fun B i=>∃ (j:Nat),j<=n/\i=.int .i64 j/\B=.int .i64 (k0+11*j:Nat)) (fun _ i=>n - (intOf i).toNat)
 case atStart=>exact⟨0,Nat.zero_le _,rfl,rfl⟩
 case round=>
  obtain⟨j,hj,rfl,rfl⟩:=hrel;by_cases hp:j < n
  ·obtain⟨g,o,rfl,_,hc⟩:=H.out (by rw[rEA];omega);have r:=hc j (by rw[rEA];exact hp);rw[eOA,lJA] at r;obtain⟨K,z⟩:∃ K,k0+11*j=K:=⟨_,rfl⟩;rw[z] at r ⊢;have p0:w.cell? ⟨g,o+j*11,none⟩=some (.int .u8 (((K:Int)) % 256)):=r 0 iQ;have p1:w.cell? ⟨g,o+j*11+1,none⟩=some (.int .u8 (((K:Int)+1) % 256)):=r 1 iQ;have p2:w.cell? ⟨g,o+j*11+2,none⟩=some (.int .u8 (((K:Int)+1+1) % 256)):=r 2 iQ;have p3:w.cell? ⟨g,o+j*11+3,none⟩=some (.int .u8 (((K:Int)+1+1+1) % 256)):=r 3 iQ;have p4:w.cell? ⟨g,o+j*11+4,none⟩=some (.int .u16 (IntKind.u16.wrap ((K:Int)+1+1+1+1))):=r 4 iQ;have p5:w.cell? ⟨g,o+j*11+5,none⟩=some (.bool (((K:Int)+1+1+1+1+1) % 3==0)):=r 5 iQ;have p6:w.cell? ⟨g,o+j*11+6,none⟩=some (.bool (((K:Int)+1+1+1+1+1+1) % 3==0)):=r 6 iQ;have p7:w.cell? ⟨g,o+j*11+7,none⟩=some (.bool (((K:Int)+1+1+1+1+1+1+1) % 3==0)):=r 7 iQ;have p8:w.cell? ⟨g,o+j*11+8,none⟩=some (.bool (((K:Int)+1+1+1+1+1+1+1+1) % 3==0)):=r 8 iQ;have p9:w.cell? ⟨g,o+j*11+9,none⟩=some (.bool (((K:Int)+1+1+1+1+1+1+1+1+1) % 3==0)):=r 9 iQ;have a0:w.cell? ⟨g,o+j*11+10,none⟩=some (.bool (((K:Int)+1+1+1+1+1+1+1+1+1+1) % 3==0)):=r 10 iQ;have J:K<=200000000:=dQ;have HK:=hQ z;have U:(0:Int)<=(j:Int)/\(j:Int) < (n:Int):=dQ;clear hc r z;go_wp2;go_round
   case rel=>exact⟨j+1,dQ,bQe,eQh⟩
   case measure=>simp[intOf];omega
  ·obtain rfl:j=n:=dQ;go_wp2;go_ret;exact⟨rfl,Below.refl _ _⟩
theorem cTA (a:Option Addr) (cap k0 n lo hi:Nat) (w:World) (Q:n<=1048576) (hk:k0<=100000000) (h:SegG yAA w lo hi (.slice a n cap) (cCA vDA 11 k0 n)) :
  Calls Tryz.prog 65 #[.slice a n cap,.int .i64 k0] w fun e w'=>e=.returned (.int .i64 (k0+11*n:Nat))/\Below w.heap.size w w':=cUA a n cap k0 w Q hk h.row

end Go.Proofs.YtckfdbjjjgfbfaaGreat
