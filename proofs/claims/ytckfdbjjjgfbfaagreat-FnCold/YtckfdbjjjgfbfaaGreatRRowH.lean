import Derived.Test.YtckfdbjjjgfbfaaGreatRPhr
import Derived.Test.YtckfdbjjjgfbfaaGreatRows
import Derived.WalkKit
import Derived.ProofKit
import Derived.OpenShut
import Derived.Deep.Slices
import Derived.Test.YtckfdbjjjgfbfaaGreatRAluA
import Derived.Test.YtckfdbjjjgfbfaaGreatRRowG
import Derived.Test.YtckfdbjjjgfbfaaGreatRCycRow
import Derived.WalkSmall
set_option linter.unusedVariables false
set_option linter.unusedSimpArgs false
set_option maxRecDepth 100000
namespace Go.Proofs.YtckfdbjjjgfbfaaGreat
open Go.ChangeShapes Go.WideShapes Go.RowKit
open Go.RowKit
def Fit:Option IntKind->Value->Prop
 | some k,v=>∃ n,v=.int k n/\(Lit.int k n).wf=true
 | none,v=>∃ b,v=.bool b
def Fits:List (Option IntKind)->List Value->Prop
 | [],[]=>True
 | k :: B,v :: vs=>Fit k v/\Fits B vs
 | _,_=>False
theorem sIA {l:List Value} (h:Fits [] l):l=[]:=by
 cases l with
 | nil=>rfl
 | cons _ _=>exact h.elim
theorem eCA {k:Option IntKind} {B:List (Option IntKind)} {l:List Value} (h:Fits (k :: B) l):∃ v r,l=v :: r/\Fit k v/\Fits B r:=by
 cases l with
 | nil=>exact h.elim
 | cons v r=>exact⟨v,r,rfl,h.1,h.2⟩
theorem gLA:∀ {a b:List (Option IntKind)} {x y:List Value},Fits a x->Fits b y->Fits (a++b) (x++y)
 | [],_,x,_,h,k=>by rw[sIA h];exact k
 | _ :: _,_,_,_,h,k=>by
  obtain⟨v,r,rfl,h1,h2⟩:=eCA h;exact⟨h1,gLA h2 k⟩
theorem fLA:∀ {a:List (Option IntKind)} {x:List Value},Fits a x->x.length=a.length
 | [],x,h=>by rw[sIA h];rfl
 | _ :: _,_,h=>by
  obtain⟨v,r,rfl,_,h2⟩:=eCA h;simp[fLA h2]
def flatL (P:Program) (g:TypeId->Option (List (Option IntKind))):Nat->List Field->Option (List (Option IntKind))
 | _,[]=>some []
 | E,f :: r=>
  match g f.type with
  | none=>none
  | some B=>if f.offset=E/\P.cellsOf f.type=B.length then (flatL P g (E+B.length) r).map (B++·) else none
def flat (P:Program):Nat->TypeId->Option (List (Option IntKind))
 | 0,_=>none
 | n+1,t=>
  match P.underlying t with
  | some .bool=>some [none]
  | some (.int k)=>some [some k]
  | some (.struct U)=>(flatL P (flat P n) 0 U.toList).bind fun B=>if P.cellsOf t=B.length then some B else none
  | _=>none
theorem zLA {P:Program} {g:TypeId->Option (List (Option IntKind))} {cs:List Value}:∀ (U:List Field) (E:Nat) (B:List (Option IntKind)),flatL P g E U=some B ->
  (∀ f ∈ U,∀ J,g f.type=some J->Fits J ((cs.drop f.offset).take (P.cellsOf f.type)))->Fits B ((cs.drop E).take B.length)
 | [],E,B,h,_=>by
  simp only[flatL,Option.some.injEq] at h;subst h;simp[Fits]
 | f :: r,E,B,h,hf=>by
  simp only[flatL] at h;cases T:g f.type with
  | none=>simp[T] at h
  | some J=>
   simp only[T] at h;split at h
   ·rename_i hc;obtain⟨h1,h2⟩:=hc;cases hr:flatL P g (E+J.length) r with
    | none=>simp[hr] at h
    | some O=>
     simp only[hr,Option.map_some,Option.some.injEq] at h;subst h;have a1:=hf f xQ J T;rw[h1,h2] at a1;have a2:=zLA r (E+J.length) O hr (fun f' R=>hf f' (by simp[R]));have e:(cs.drop E).take (J++O).length=(cs.drop E).take J.length++(cs.drop (E+J.length)).take O.length:=by
      rw[List.length_append,List.take_add,List.drop_drop]
     rw[e];exact gLA a1 a2
   ·cases h
theorem mKA {H:Type} {enc:TypeId×Value->H} {P:Program} {w:World} {base:Nat} {K:Nat->Bool} {Q:Bool}:∀ (n:Nat) (t:TypeId) (B:List (Option IntKind)) (cs:List Value) (m:Nat) (x:DataW H×List MemPlace),
  flat P n t=some B->DataW.trod enc P w base K Q m t cs=some x->Fits B cs
 | 0,_,_,_,_,_,h,_=>by simp[flat] at h
 | n+1,t,B,cs,m,x,h,ht=>by
  unfold flat at h;split at h
  ·rename_i W;obtain⟨b,rfl,_⟩:=DataW.trod_bool W ht;simp only[Option.some.injEq] at h;subst h;exact⟨⟨b,rfl⟩,trivial⟩
  ·rename_i k W;obtain⟨i,rfl,_,hw⟩:=DataW.trod_int W ht;simp only[Option.some.injEq] at h;subst h;exact⟨⟨i,rfl,hw⟩,trivial⟩
  ·rename_i U W;obtain⟨xs,m',_,_,hl,b2,hf⟩:=DataW.trod_struct W ht;cases hk:flatL P (flat P n) 0 U.toList with
   | none=>simp[hk] at h
   | some J=>
    simp only[hk,Option.bind_some] at h;split at h
    ·rename_i hc;simp only[Option.some.injEq] at h;subst h;have:=zLA (cs:=cs) U.toList 0 J hk (fun f R O T=>by
      obtain⟨i,hi⟩:=List.getElem?_of_mem R;have a0:U[i]?=some f:=iQi;have h1:=hf i f a0;have a9:i < xs.length:=by rw[b2];exact (Array.getElem?_eq_some_iff.1 a0).1
      rw[List.getElem?_eq_getElem a9] at h1;exact mKA n f.type O _ m' _ T h1)
     rw[List.drop_zero,List.take_of_length_le dQ] at this;exact this
    ·cases h
  ·cases h
theorem fCB {H:Type} {enc:TypeId×Value->H} {P:Program} {w:World} {base:Nat} {K:Nat->Bool} {Q:Bool} {r:Reach} {b0:Nat} {t:TypeId} {U:Array Field} {v:Value} {d:DataW H} {p:List MemPlace} {B:List (Option IntKind)} (n:Nat) (hk:flat P n t=some B)
  (hs:P.underlying t=some (.struct U)) (hv:Value.okWide P w r b0 t v) (h:DataW.Trod enc P w base K Q t v d p):∃ l,v=.agg l.toArray/\Fits B l:=by
 obtain⟨cs,rfl,_⟩:=okWide_struct hs hv;obtain⟨m,R⟩:=h;exact⟨cs.toList,xQ,mKA n t B _ m _ hk R⟩
inductive Ck
 | b
 | i (k:IntKind)
 | s
 | sl (B:List (Option IntKind))
def RowOf (B:List (Option IntKind)) (w:World) (a:Option Addr) (len cap:Nat):Prop:=
 (a=none/\len=0/\cap=0) \/
 ∃ x,a=some x/\len<=cap/\cap<=maxLen/\∃ V:Nat->List Value,∀ i,i < len->Fits B (V i)/\∀ j,j < B.length->w.cell? (x.add (i*B.length+j))=some ((V i).getD j undef)
def FitW (w:World):Ck->Value->Prop
 | .b,v=>∃ b,v=.bool b
 | .i k,v=>∃ n,v=.int k n/\(Lit.int k n).wf=true
 | .s,v=>∃ s:ByteArray,v=.string s/\s.size<=maxLen
 | .sl B,v=>∃ a len cap,v=.slice a len cap/\RowOf B w a len cap
def FitsW (w:World):List Ck->List Value->Prop
 | [],[]=>True
 | k :: B,v :: vs=>FitW w k v/\FitsW w B vs
 | _,_=>False
theorem vNA {w:World} {l:List Value} (h:FitsW w [] l):l=[]:=by
 cases l with
 | nil=>rfl
 | cons _ _=>exact h.elim
theorem uIA {w:World} {k:Ck} {B:List Ck} {l:List Value} (h:FitsW w (k :: B) l):∃ v r,l=v :: r/\FitW w k v/\FitsW w B r:=by
 cases l with
 | nil=>exact h.elim
 | cons v r=>exact⟨v,r,rfl,h.1,h.2⟩
theorem gKA {w:World}:∀ {a b:List Ck} {x y:List Value},FitsW w a x->FitsW w b y->FitsW w (a++b) (x++y)
 | [],_,x,_,h,k=>by rw[vNA h];exact k
 | _ :: _,_,_,_,h,k=>by
  obtain⟨v,r,rfl,h1,h2⟩:=uIA h;exact⟨h1,gKA h2 k⟩
def sHA (P:Program) (g:TypeId->Option (List Ck)):Nat->List Field->Option (List Ck)
 | _,[]=>some []
 | E,f :: r=>
  match g f.type with
  | none=>none
  | some B=>if f.offset=E/\P.cellsOf f.type=B.length then (sHA P g (E+B.length) r).map (B++·) else none
def flatW (P:Program):Nat->TypeId->Option (List Ck)
 | 0,_=>none
 | n+1,t=>
  match P.underlying t with
  | some .bool=>some [.b]
  | some (.int k)=>some [.i k]
  | some .string=>some [.s]
  | some (.slice e)=>(flat P n e).bind fun B=>if P.cellsOf e=B.length then some [.sl B] else none
  | some (.struct U)=>(sHA P (flatW P n) 0 U.toList).bind fun B=>if P.cellsOf t=B.length then some B else none
  | _=>none
theorem lLA {w:World} {P:Program} {g:TypeId->Option (List Ck)} {cs:List Value}:∀ (U:List Field) (E:Nat) (B:List Ck),sHA P g E U=some B ->
  (∀ f ∈ U,∀ J,g f.type=some J->FitsW w J ((cs.drop f.offset).take (P.cellsOf f.type)))->FitsW w B ((cs.drop E).take B.length)
 | [],E,B,h,_=>by
  simp only[sHA,Option.some.injEq] at h;subst h;simp[FitsW]
 | f :: r,E,B,h,hf=>by
  simp only[sHA] at h;cases T:g f.type with
  | none=>simp[T] at h
  | some J=>
   simp only[T] at h;split at h
   ·rename_i hc;obtain⟨h1,h2⟩:=hc;cases hr:sHA P g (E+J.length) r with
    | none=>simp[hr] at h
    | some O=>
     simp only[hr,Option.map_some,Option.some.injEq] at h;subst h;have a1:=hf f xQ J T;rw[h1,h2] at a1;have a2:=lLA r (E+J.length) O hr (fun f' R=>hf f' (by simp[R]));have e:(cs.drop E).take (J++O).length=(cs.drop E).take J.length++(cs.drop (E+J.length)).take O.length:=by
      rw[List.length_append,List.take_add,List.drop_drop]
     rw[e];exact gKA a1 a2
   ·cases h
theorem yIA {H:Type} {enc:TypeId×Value->H} {P:Program} {w:World} {base:Nat} {K:Nat->Bool} {Q:Bool}:∀ (n:Nat) (t:TypeId) (B:List Ck) (cs:List Value) (m:Nat) (x:DataW H×List MemPlace),
  flatW P n t=some B->DataW.trod enc P w base K Q m t cs=some x->FitsW w B cs
 | 0,_,_,_,_,_,h,_=>by simp[flatW] at h
 | n+1,t,B,cs,m,x,h,ht=>by
  unfold flatW at h;split at h
  ·rename_i W;obtain⟨b,rfl,_⟩:=DataW.trod_bool W ht;simp only[Option.some.injEq] at h;subst h;exact⟨⟨b,rfl⟩,trivial⟩
  ·rename_i k W;obtain⟨i,rfl,_,hw⟩:=DataW.trod_int W ht;simp only[Option.some.injEq] at h;subst h;exact⟨⟨i,rfl,hw⟩,trivial⟩
  ·rename_i W;obtain⟨s,rfl,hs⟩:=DataW.trod_string W ht;simp only[Option.some.injEq] at h;subst h;exact⟨⟨s,rfl,by simpa using hs.2⟩,trivial⟩
  ·rename_i e W;cases hk:flat P n e with
   | none=>simp[hk] at h
   | some J=>
    simp only[hk,Option.bind_some] at h;split at h
    ·rename_i hc;simp only[Option.some.injEq] at h;subst h;rcases Deep.open_slice W ht with ⟨rfl,_⟩|⟨a,len,cap,m',n',D,Pl,rfl,_,hl,R,hmm,_,hx⟩
     ·exact⟨⟨none,0,0,rfl,.inl ⟨rfl,rfl,rfl⟩⟩,trivial⟩
     ·have d8:len<=m':=by rw[hmm];split<;>omega
      obtain⟨V,hV⟩:=Deep.choose_lt (α:=List Value) (n:=len) (p:=fun i v=>Fits J v/\∀ j,j < J.length->w.cell? (a.add (i*J.length+j))=some (v.getD j undef)) (fun i hi=>by
       obtain⟨cs',h1,h2⟩:=hx i dQ;obtain⟨_,d6,b5⟩:=World.cells?_some h1;refine⟨cs',mKA n e J cs' n' _ hk h2,fun j hj=>?_⟩;have:=b5 j dQ;rw[Deep.add_add,hc] at this;rw[this];simp[List.getD,show j < cs'.length by omega])
      exact⟨⟨some a,len,cap,rfl,.inr ⟨a,rfl,hl,R,V,hV⟩⟩,trivial⟩
    ·cases h
  ·rename_i U W;obtain⟨xs,m',_,_,hl,b2,hf⟩:=DataW.trod_struct W ht;cases hk:sHA P (flatW P n) 0 U.toList with
   | none=>simp[hk] at h
   | some J=>
    simp only[hk,Option.bind_some] at h;split at h
    ·rename_i hc;simp only[Option.some.injEq] at h;subst h;have:=lLA (w:=w) (cs:=cs) U.toList 0 J hk (fun f R O T=>by
      obtain⟨i,hi⟩:=List.getElem?_of_mem R;have a0:U[i]?=some f:=iQi;have h1:=hf i f a0;have a9:i < xs.length:=by rw[b2];exact (Array.getElem?_eq_some_iff.1 a0).1
      rw[List.getElem?_eq_getElem a9] at h1;exact yIA n f.type O _ m' _ T h1)
     rw[List.drop_zero,List.take_of_length_le dQ] at this;exact this
    ·cases h
  ·cases h
theorem sBB {H:Type} {enc:TypeId×Value->H} {P:Program} {w:World} {base:Nat} {K:Nat->Bool} {Q:Bool} {r:Reach} {b0:Nat} {t:TypeId} {U:Array Field} {v:Value} {d:DataW H} {p:List MemPlace} {B:List Ck} (n:Nat) (hk:flatW P n t=some B)
  (hs:P.underlying t=some (.struct U)) (hv:Value.okWide P w r b0 t v) (h:DataW.Trod enc P w base K Q t v d p):∃ l,v=.agg l.toArray/\FitsW w B l:=by
 obtain⟨cs,rfl,_⟩:=okWide_struct hs hv;obtain⟨m,R⟩:=h;exact⟨cs.toList,xQ,yIA n t B _ m _ hk R⟩
theorem nMA {H:Type} {enc:TypeId×Value->H} {P:Program} {w:World} {base:Nat} {K:Nat->Bool} {Q:Bool} {r:Reach} {b0:Nat} {t e:TypeId} {v:Value} {d:DataW H} {p:List MemPlace} {B:List (Option IntKind)} (n:Nat) (hk:flatW P n t=some [.sl B])
  (hs:P.underlying t=some (.slice e)) (hv:Value.okWide P w r b0 t v) (h:DataW.Trod enc P w base K Q t v d p):∃ a len cap,v=.slice a len cap/\RowOf B w a len cap:=by
 obtain⟨a,len,cap,rfl⟩:=okWide_slice hs hv;obtain⟨m,R⟩:=h;have:=yIA n t _ _ m _ hk R;simp only[Value.cells] at this;obtain⟨v,r,b9,⟨a',d7,d4,rfl,hr⟩,_⟩:=uIA this;simp only[List.cons.injEq,Value.slice.injEq] at b9;obtain⟨⟨rfl,rfl,rfl⟩,_⟩:=b9;exact⟨_,_,_,rfl,hr⟩
structure EvN where
 at':Int
 nmi:Bool
def ev0:EvN:=⟨0,false⟩
def cyc0:CycN:=⟨0,0,false⟩
def dNA (c:CpuN):List Value:=[.int .u8 (c.A:Int),.int .u8 (c.X:Int),.int .u8 (c.Y:Int),.int .u8 (c.S:Int),.int .u16 (c.PC:Int),.bool c.N,.bool c.V,.bool c.D,.bool c.I,.bool c.Z,.bool c.C]
def yAA:Enc CpuN:=⟨28,11,dNA,fun _=>rfl⟩
def tFA:Enc CycN:=⟨91,3,xAA,fun _=>rfl⟩
def encEv:Enc EvN:=⟨47,2,fun e=>[.int .i64 e.at',.bool e.nmi],fun _=>rfl⟩
theorem yGB {α:Type} (e:Enc α) (B:List (Option IntKind)) (ok:α->Prop) (hk:B.length=e.m) (R:0 < e.m) (d3:∀ v,Fits B v->∃ x,ok x/\e.cells x=v) {w:World} {a:Option Addr} {len cap:Nat} (h:RowOf B w a len cap) :
  ∃ L:List α,L.length=len/\RowG e w a L/\(∀ x ∈ L,ok x)/\len<=cap/\cap<=maxLen:=by
 rcases h with ⟨rfl,rfl,rfl⟩|⟨x,rfl,h1,h2,V,hV⟩
 ·exact⟨[],rfl,RowG.none _ _ _,fun x hx=>absurd hx (List.not_mem_nil),Nat.le_refl _,wQc⟩
 ·have a3:∀ i,i < len->∃ y:α,ok y/\∀ k,k < e.m->w.cell? (x.add (i*e.m+k))=(e.cells y)[k]?:=fun i hi=>by
   obtain⟨f,hc⟩:=hV i hi;obtain⟨y,hy,c0⟩:=d3 _ f;refine⟨y,hy,fun k a7=>?_⟩;have hl:k < (V i).length:=by rw[fLA f,hk];exact a7
   rw[c0,<-hk,hc k dQ,List.getD_eq_getElem?_getD,List.getElem?_eq_getElem hl];rfl
  by_cases h0:0 < len
  ·obtain⟨y0,_,c9⟩:=a3 0 h0;have hc:=c9 0 R;rw[List.getElem?_eq_getElem (by rw[e.len];exact R)] at hc;obtain⟨f,hf⟩:∃ f:Fin len->α,∀ i:Fin len,ok (f i)/\∀ k,k < e.m->w.cell? (x.add (i*e.m+k))=(e.cells (f i))[k]?:=⟨fun i=>(a3 i i.2).choose,fun i=>(a3 i i.2).choose_spec⟩;obtain⟨b,E,spot⟩:=x;have b4:spot=none:=kQh;subst b4;have a5:∀ i,(⟨b,E,none⟩:Addr).add i=⟨b,E+i,none⟩:=fun i=>gQh
   refine⟨List.ofFn f,List.length_ofFn,fun _=>⟨b,E,rfl,World.block_lt_of_cell? w _ (by rw[a5] at hc;exact hc),fun i hi k a7=>?_⟩,fun y hy=>?_,h1,h2⟩
   ·have a0:i < len:=iQi;have:=(hf ⟨i,a0⟩).2 k a7;rw[a5] at this;rw[List.getElem_ofFn,<-this,Nat.add_assoc]
   ·obtain⟨i,rfl⟩:=List.mem_ofFn.1 hy;exact (hf i).1
  ·have:len=0:=dQ;subst this;exact⟨[],rfl,RowG.none _ _ _,fun x hx=>absurd hx (List.not_mem_nil),h1,h2⟩
theorem zHB {w:World} {a:Option Addr} {len cap:Nat} (h:RowOf [some .i64,none] w a len cap):∃ L:List EvN,L.length=len/\RowG encEv w a L/\(∀ x ∈ L,(Lit.int .i64 x.at').wf=true)/\len<=cap/\cap<=maxLen:=
 yGB encEv [some .i64,none] _ rfl Nat.two_pos (fun v f0=>by
  obtain⟨u0,r0,rfl,⟨n,rfl,hw⟩,f1⟩:=eCA f0;obtain⟨u1,r1,rfl,⟨b,rfl⟩,f2⟩:=eCA f1;obtain rfl:=sIA f2;exact⟨⟨n,b⟩,hw,rfl⟩) h
theorem RowG.cyc {w:World} {a:Option Addr} {L:List CycN} (h:RowG tFA w a L):RowC w a L:=fun h0=>by
 obtain⟨g,o,rfl,T,hc⟩:=h h0;exact⟨g,o,rfl,T,fun i hi=>⟨hc i hi 0 iQ,hc i hi 1 iQ,hc i hi 2 iQ⟩⟩
def setsG (w:World) (g:Nat):Nat->List Value->World
 | _,[]=>w
 | o,v :: r=>setsG (w.setCell ⟨g,o,none⟩ v) g (o+1) r
def setL (X:List Value):Nat->List Value->List Value
 | _,[]=>X
 | o,v :: r=>setL (X.set o v) (o+1) r
theorem cWA:∀ (V:List Value) (X:List Value) (o:Nat),o+V.length<=X.length->setL X o V=X.take o++V++X.drop (o+V.length)
 | [],X,o,h=>by simp[setL]
 | v :: r,X,o,h=>by
  have h':o < X.length:=by rw[List.length_cons] at h;omega
  rw[setL,cWA r (X.set o v) (o+1) (by rw[List.length_set,List.length_cons] at *;omega)];have e1:(X.set o v).take (o+1)=X.take o++[v]:=by
   rw[List.take_add_one,List.take_set_of_le (Nat.le_refl o),List.getElem?_set_self h'];rfl
  have e2:(X.set o v).drop (o+1+r.length)=X.drop (o+(v :: r).length):=by
   rw[List.drop_set_of_lt dQ,List.length_cons];congr 1;omega
  rw[e1,e2,List.append_assoc,List.append_assoc,List.append_assoc];rfl
theorem rCB {α:Type} (e:Enc α) (L:List α) (k:Nat) (hk:k < L.length) (x:α):setL (L.flatMap e.cells) (k*e.m) (e.cells x)=(L.set k x).flatMap e.cells:=by
 have hl:=fFA e L;have b7:(k+1)*e.m<=L.length*e.m:=Nat.mul_le_mul_right _ hk;rw[Nat.succ_mul] at b7;rw[cWA _ _ _ (by rw[e.len,hl];exact b7),e.len];have d1:(L.flatMap e.cells).take (k*e.m)=(L.take k).flatMap e.cells:=by
  conv=>lhs;rw[<-List.take_append_drop k L,List.flatMap_append]
  rw[List.take_left' (by rw[fFA,List.length_take,Nat.min_eq_left (Nat.le_of_lt hk)])]
 have d2:(L.flatMap e.cells).drop (k*e.m+e.m)=(L.drop (k+1)).flatMap e.cells:=by
  conv=>lhs;rw[<-List.take_append_drop (k+1) L,List.flatMap_append]
  rw[List.drop_left' (by rw[fFA,List.length_take,Nat.min_eq_left hk,Nat.succ_mul])]
 rw[d1,d2,List.set_eq_take_append_cons_drop,if_pos hk,List.flatMap_append,List.flatMap_cons,List.append_assoc]
theorem qKA {base:Nat} {t:TypeId} {m g n cap:Nat}:∀ (V:List Value) (w:World) (X:List Value) (o:Nat),w.ownsRow base t m (.slice (some ⟨g,0,none⟩) n cap) n X->(setsG w g o V).ownsRow base t m (.slice (some ⟨g,0,none⟩) n cap) n (setL X o V)/\w.grownBy (setsG w g o V) (some g)
 | [],w,X,o,h=>⟨h,World.grownBy.refl _ _⟩
 | v :: r,w,X,o,h=>by
  have h1:=World.ownsRow.stored h o v;obtain⟨h2,h3⟩:=qKA r _ _ (o+1) h1.1;exact⟨h2,fDA h1.2 h3⟩
theorem zIA {α:Type} {e:Enc α} {w:World} {base g cap:Nat} {L:List α} (h:OwnG e w base (.slice (some ⟨g,0,none⟩) L.length cap) L) (k:Nat) (hk:k < L.length) (x:α) :
  OwnG e (setsG w g (k*e.m) (e.cells x)) base (.slice (some ⟨g,0,none⟩) L.length cap) (L.set k x)/\w.grownBy (setsG w g (k*e.m) (e.cells x)) (some g):=by
 obtain⟨h1,h2⟩:=qKA (e.cells x) w _ (k*e.m) h;rw[rCB e L k hk x] at h1;refine⟨?_,h2⟩;unfold OwnG;rw[List.length_set];exact h1
theorem sBA {α:Type} {e:Enc α} {w:World} {base g n cap:Nat} {L:List α} (h:OwnG e w base (.slice (some ⟨g,0,none⟩) n cap) L) (j:Nat):w.frozen? ⟨g,j,none⟩=false:=by
 obtain⟨rfl,_⟩:=OwnG.row h;exact World.ownsRow.frozenAt h j
theorem qDA {α:Type} {e:Enc α} {w:World} {base g n cap:Nat} {L:List α} (h:OwnG e w base (.slice (some ⟨g,0,none⟩) n cap) L) (i:Nat) (hi:i < L.length) (k:Nat) (hk:k < e.m):w.cell? ⟨g,i*e.m+k,none⟩=(e.cells L[i])[k]?:=by
 obtain⟨rfl,hr⟩:=OwnG.row h;obtain⟨g',o',e1,_,hc⟩:=hr dQ;simp only[Option.some.injEq,Addr.mk.injEq,and_true] at e1;obtain⟨rfl,rfl⟩:=e1;have:=hc i hi k hk
 rwa [Nat.zero_add] at this
def partG {α:Type} (z:α) (L:List α) (k:Nat):List α:=L.take k++List.replicate (L.length - k) z
theorem xZA {α:Type} (z:α) (L:List α) (k:Nat) (hk:k<=L.length):(partG z L k).length=L.length:=by simp[partG];omega
theorem mBB {α:Type} (z:α) (L:List α) (k:Nat) (hk:k < L.length):(partG z L k).set k L[k]=partG z L (k+1):=by
 unfold partG;rw[List.set_append_right _ _ qQ];have e1:k - (List.take k L).length=0:=qQ;have e2:L.length - k=(L.length - (k+1))+1:=dQ;rw[e1,e2,List.replicate_succ,List.set_cons_zero,List.take_add_one,List.getElem?_eq_getElem hk,List.append_assoc];rfl
theorem eYA {α:Type} (z:α) (L:List α):partG z L 0=List.replicate L.length z:=by simp[partG]
theorem yAB {α:Type} (z:α) (L:List α):partG z L L.length=L:=by simp[partG]
theorem uYA {α:Type} (e:Enc α) (z:α) (R:0 < e.m) (n:Nat):(madeCells (e.cells z).toArray (n*e.m)).toList=(List.replicate n z).flatMap e.cells:=by
 apply List.ext_getElem?;intro j;by_cases hj:j < n*e.m
 ·have hi:j / e.m < n:=(Nat.div_lt_iff_lt_mul R).2 hj;have hf:=tLA e (List.replicate n z) (j / e.m) iQi (j % e.m) (Nat.mod_lt _ R);rw[Nat.mul_comm,Nat.div_add_mod] at hf;rw[hf];simp[madeCells,hj,e.len,Nat.mod_lt _ R]
 ·have h1:(madeCells (e.cells z).toArray (n*e.m)).toList.length<=j:=by simp[madeCells];omega
  rw[List.getElem?_eq_none h1,List.getElem?_eq_none (by rw[fFA,List.length_replicate];omega)]
theorem makeG {α:Type} (e:Enc α) (z:α) (R:0 < e.m) (ts:TypeId) (zv:Value) (bytes:Nat) (ht:Tryz.prog.underlying ts=some (.slice e.t)) (b3:(Tryz.prog.info? e.t).map (fun i=>(i.zero,i.size,i.bytes))=some (some zv,e.m,bytes)) (hz:zv.cells=(e.cells z).toArray) (n:Nat) (hb:bytes*n<=281474976710656) (hn:n<=1048576) (w:World) :
  (Instr.makeSlice ts (.int .i64 (n:Int)) (.int .i64 (n:Int))).run Tryz.prog w=.ok (.slice (some ⟨w.heap.size,0,none⟩) n n) (w.alloc (.cells (madeCells (e.cells z).toArray (n*e.m)) e.t)) /\
   OwnG e (w.alloc (.cells (madeCells (e.cells z).toArray (n*e.m)) e.t)) w.heap.size (.slice (some ⟨w.heap.size,0,none⟩) n n) (List.replicate n z):=by
 obtain⟨i0,hi,hz0,hz1,c7⟩:=info_parts b3;have hb2:(i0.bytes:Int)*(n:Int)<=281474976710656:=by
  rw[c7];have h:((bytes*n:Nat):Int)<=281474976710656:=dQ
  rwa [Int.natCast_mul] at h
 have hr:=run_make (P:=Tryz.prog) w ts e.t i0 zv ht hi hz0 .i64 .i64 n n dQ (Int.le_refl _) hb2 dQ;simp only[Int.toNat_natCast,hz1,hz] at hr;refine⟨hr,?_⟩;unfold OwnG;rw[List.length_replicate,<-uYA e z R n];exact World.ownsRow_lit w _ n (Nat.le_refl _) wQc (size_madeCells _ _)
theorem eLA (a:Option Addr) (n c:Nat) (l:Int) (hn:n<=maxLen) (hl:0<=l/\l<=1048576) (w:World) :
  Calls Tryz.prog 19 #[.slice a n c,.int .i64 l] w fun e w'=>e=.returned (.int .i64 (if l - n < 0 then -1 else l - n))/\Below w.heap.size w w':=by
 unfold maxLen at hn;by_cases h:l - n < 0
 ·rw[if_pos h];go_enter Tryz.func19,Tryz.ntmps19;go_wp2;go_ret;exact⟨rfl,Below.refl _ _⟩
 ·rw[if_neg h];go_enter Tryz.func19,Tryz.ntmps19;go_wp2;go_ret;exact⟨rfl,Below.refl _ _⟩
theorem gUA (x:EvN) (w:World) :
  Calls Tryz.prog 51 #[.agg #[.int .i64 x.at',.bool x.nmi]] w fun e w'=>e=.returned (.agg #[.int .i64 x.at',.bool x.nmi])/\Below w.heap.size w w':=by
 obtain⟨n,b⟩:=x;go_enter Tryz.func51,Tryz.ntmps51;go_wp2;exact bodyPost_ret (v:=.agg #[.int .i64 n,.bool b]) (by simp[results,Tryz.results51,go_sem]) rfl ⟨rfl,(((Below.refl _ _).alloc (Nat.le_refl _) _).alloc xQ _).alloc qQ _⟩
theorem uTA (x:EvN) (w:World) :
  Calls Tryz.prog 57 #[.agg #[.int .i64 x.at',.bool x.nmi],.agg #[.int .i64 x.at',.bool x.nmi]] w fun e w'=>e=.returned (.bool true)/\Below w.heap.size w w':=by
 obtain⟨n,b⟩:=x;go_enter Tryz.func57,Tryz.ntmps57;go_wp2;go_ret;exact⟨rfl,((Below.refl _ _).alloc (Nat.le_refl _) _).alloc xQ _⟩
theorem nNA {w:World} {a:Option Addr} {L:List Int} (h:RowG encI w a L) (i:Nat) (hi:i < L.length) :
  ∃ g o,a=some ⟨g,o,none⟩/\g < w.heap.size/\w.cell? ⟨g,o+i,none⟩=some (.int .i64 L[i]):=by
 obtain⟨g,o,rfl,T,hc⟩:=h dQ;exact⟨g,o,rfl,T,by simpa [encI] using hc i hi 0 iQ⟩
theorem dOA {w:World} {a:Option Addr} {L:List CpuN} (h:RowG yAA w a L) (i:Nat) (hi:i < L.length) :
  ∃ g o,a=some ⟨g,o,none⟩/\g < w.heap.size/\w.cell? ⟨g,o+i*11,none⟩=some (.int .u8 (L[i].A:Int))/\w.cell? ⟨g,o+i*11+1,none⟩=some (.int .u8 (L[i].X:Int))/\w.cell? ⟨g,o+i*11+2,none⟩=some (.int .u8 (L[i].Y:Int))/\w.cell? ⟨g,o+i*11+3,none⟩=some (.int .u8 (L[i].S:Int))/\w.cell? ⟨g,o+i*11+4,none⟩=some (.int .u16 (L[i].PC:Int))/\w.cell? ⟨g,o+i*11+5,none⟩=some (.bool L[i].N)/\w.cell? ⟨g,o+i*11+6,none⟩=some (.bool L[i].V)/\w.cell? ⟨g,o+i*11+7,none⟩=some (.bool L[i].D)/\w.cell? ⟨g,o+i*11+8,none⟩=some (.bool L[i].I)/\w.cell? ⟨g,o+i*11+9,none⟩=some (.bool L[i].Z)/\w.cell? ⟨g,o+i*11+10,none⟩=some (.bool L[i].C):=by
 obtain⟨g,o,rfl,T,hc⟩:=h dQ;exact⟨g,o,rfl,T,hc i hi 0 iQ,hc i hi 1 iQ,hc i hi 2 iQ,hc i hi 3 iQ,hc i hi 4 iQ,hc i hi 5 iQ,hc i hi 6 iQ,hc i hi 7 iQ,hc i hi 8 iQ,hc i hi 9 iQ,hc i hi 10 iQ⟩
theorem wFA {w:World} {a:Option Addr} {L:List EvN} (h:RowG encEv w a L) (i:Nat) (hi:i < L.length) :
  ∃ g o,a=some ⟨g,o,none⟩/\g < w.heap.size/\w.cell? ⟨g,o+i*2,none⟩=some (.int .i64 L[i].at')/\w.cell? ⟨g,o+i*2+1,none⟩=some (.bool L[i].nmi):=by
 obtain⟨g,o,rfl,T,hc⟩:=h dQ;exact⟨g,o,rfl,T,hc i hi 0 iQ,hc i hi 1 iQ⟩
theorem eZA (a1 a2:Option Addr) (c1 c2:Nat) (L:List Int) (w:World) (hl:L.length<=1048576) (h1:RowG encI w a1 L) (h2:RowG encI w a2 L) :
  Calls Tryz.prog 54 #[.slice a1 L.length c1,.slice a2 L.length c2] w fun e w'=>e=.returned (.bool true)/\Below w.heap.size w w':=by
 have H1:=hQ h1;have H2:=hQ h2;clear h1 h2;go_enter Tryz.func54,Tryz.ntmps54;go_wp2;go_loopw [5] (fun i wr=>∃ k:Nat,k<=L.length/\i=.int .i64 k/\Below w.heap.size w wr) (fun i _=>L.length - (intOf i).toNat)
 case atStart=>exact⟨0,Nat.zero_le _,rfl,Below.refl _ _⟩
 case round=>
  obtain⟨k,hk,rfl,hb⟩:=hrel;by_cases hp:k < L.length
  ·obtain⟨g1,o1,rfl,_,p0⟩:=nNA (H1.out.below hb) k hp;obtain⟨g2,o2,rfl,_,q0⟩:=nNA (H2.out.below hb) k hp;obtain⟨x,hx⟩:∃ x,L[k]=x:=⟨_,rfl⟩;rw[hx] at p0 q0;clear hx;have ik:(0:Int)<=(k:Int)/\(k:Int) < (L.length:Int):=dQ;go_wp2;go_quiet (fail);go_wp2;go_roundw
   case rel=>exact⟨k+1,dQ,bQe,below_drewN hb _⟩
   case measure=>simp[intOf];omega
  ·go_wp2;go_ret;exact⟨rfl,hb⟩
theorem sYA (a1 a2:Option Addr) (c1 c2:Nat) (L:List CpuN) (w:World) (hl:L.length<=1048576) (h1:RowG yAA w a1 L) (h2:RowG yAA w a2 L) :
  Calls Tryz.prog 55 #[.slice a1 L.length c1,.slice a2 L.length c2] w fun e w'=>e=.returned (.bool true)/\Below w.heap.size w w':=by
 have H1:=hQ h1;have H2:=hQ h2;clear h1 h2;go_enter Tryz.func55,Tryz.ntmps55;go_wp2;go_loopw [5] (fun i wr=>∃ k:Nat,k<=L.length/\i=.int .i64 k/\Below w.heap.size w wr) (fun i _=>L.length - (intOf i).toNat)
 case atStart=>exact⟨0,Nat.zero_le _,rfl,Below.refl _ _⟩
 case round=>
  obtain⟨k,hk,rfl,hb⟩:=hrel;by_cases hp:k < L.length
  ·obtain⟨g1,o1,rfl,_,p0,p1,p2,p3,p4,p5,p6,p7,p8,p9,p10⟩:=dOA (H1.out.below hb) k hp;obtain⟨g2,o2,rfl,_,q0,q1,q2,q3,q4,q5,q6,q7,q8,q9,q10⟩:=dOA (H2.out.below hb) k hp;obtain⟨x,hx⟩:∃ x,L[k]=x:=⟨_,rfl⟩;rw[hx] at p0 p1 p2 p3 p4 p5 p6 p7 p8 p9 p10 q0 q1 q2 q3 q4 q5 q6 q7 q8 q9 q10;clear hx;have ik:(0:Int)<=(k:Int)/\(k:Int) < (L.length:Int):=dQ;go_wp2_with fail;go_still_tail 8,gQ;change wpList _ _ _ _ _ wr.drew;go_wp2_with fail;refine (zNA x _).mono ?_;rintro e w1 ⟨rfl,d1⟩;have b1:=bstep hb.drew d1;go_wp2;go_roundw
   case rel=>exact⟨k+1,dQ,bQe,b1⟩
   case measure=>simp[intOf];omega
  ·go_wp2;go_ret;exact⟨rfl,hb⟩
theorem mQA (a1 a2:Option Addr) (c1 c2:Nat) (L:List EvN) (w:World) (hl:L.length<=1048576) (h1:RowG encEv w a1 L) (h2:RowG encEv w a2 L) :
  Calls Tryz.prog 25 #[.slice a1 L.length c1,.slice a2 L.length c2] w fun e w'=>e=.returned (.bool true)/\Below w.heap.size w w':=by
 have H1:=hQ h1;have H2:=hQ h2;clear h1 h2;go_enter Tryz.func25,Tryz.ntmps25;go_wp2;go_loopw [5] (fun i wr=>∃ k:Nat,k<=L.length/\i=.int .i64 k/\Below w.heap.size w wr) (fun i _=>L.length - (intOf i).toNat)
 case atStart=>exact⟨0,Nat.zero_le _,rfl,Below.refl _ _⟩
 case round=>
  obtain⟨k,hk,rfl,hb⟩:=hrel;by_cases hp:k < L.length
  ·obtain⟨g1,o1,rfl,_,p0,p1⟩:=wFA (H1.out.below hb) k hp;obtain⟨g2,o2,rfl,_,q0,q1⟩:=wFA (H2.out.below hb) k hp;obtain⟨x,hx⟩:∃ x,L[k]=x:=⟨_,rfl⟩;rw[hx] at p0 p1 q0 q1;clear hx;have ik:(0:Int)<=(k:Int)/\(k:Int) < (L.length:Int):=dQ;go_wp2_with fail;go_still_tail 8,gQ;change wpList _ _ _ _ _ wr.drew;go_wp2_with fail;refine (uTA x _).mono ?_;rintro e w1 ⟨rfl,d1⟩;have b1:=bstep hb.drew d1;go_wp2;go_roundw
   case rel=>exact⟨k+1,dQ,bQe,b1⟩
   case measure=>simp[intOf];omega
  ·go_wp2;go_ret;exact⟨rfl,hb⟩
theorem cZA:(Tryz.prog.info? 47).map (fun i=>(i.zero,i.size,i.bytes))=some (some (.agg #[.int .i64 0,.bool false]),2,16):=gQ
theorem lAB (n:Nat) (hn:n<=1048576):∃ C:Array Value,
  (∀ w,(Instr.makeSlice 31 (.int .i64 (n:Int)) (.int .i64 (n:Int))).run Tryz.prog w=.ok (.slice (some ⟨w.heap.size,0,none⟩) n n) (w.alloc (.cells C 47))) /\
   ∀ w:World,OwnG encEv (w.alloc (.cells C 47)) w.heap.size (.slice (some ⟨w.heap.size,0,none⟩) n n) (List.replicate n ev0):=
 have h:=fun w=>makeG encEv ev0 iQ 31 (.agg #[.int .i64 0,.bool false]) 16 Tryz.underlying31 cZA rfl n dQ hn w
 ⟨_,fun w=>(h w).1,fun w=>(h w).2⟩
theorem lGA (a:Option Addr) (cap:Nat) (L:List EvN) (w:World) (hl:L.length<=1048576) (h:RowG encEv w a L) :
  Calls Tryz.prog 22 #[.slice a L.length cap] w fun e w'=>e=.returned (.slice (some ⟨w.heap.size,0,none⟩) L.length L.length)/\OwnG encEv w' w.heap.size (.slice (some ⟨w.heap.size,0,none⟩) L.length L.length) L/\Below w.heap.size w w':=by
 obtain⟨C,c8,b8⟩:=lAB L.length hl;have a8:=hQ (b8 w);clear b8;have HR:=hQ h;clear h;go_enter Tryz.func22,Tryz.ntmps22;go_wp2;obtain⟨W0,a4⟩:∃ W0,W0=w.alloc (.cells C 47):=⟨_,rfl⟩;rw[<-a4];rw[<-a4] at a8;have b6:Below w.heap.size w W0:=by rw[a4];exact (Below.refl _ _).alloc (Nat.le_refl _) _
 clear c8 a4;go_loopw [4] (fun i wr=>∃ k:Nat,k<=L.length/\i=.int .i64 k/\Hid (OwnG encEv wr w.heap.size (.slice (some ⟨w.heap.size,0,none⟩) L.length L.length) (partG ev0 L k))/\Below w.heap.size w wr) (fun i _=>L.length - (intOf i).toNat)
 case atStart=>exact⟨0,Nat.zero_le _,rfl,hQ (by rw[eYA];exact a8.out),b6⟩
 case round=>
  obtain⟨k,hk,rfl,HO,hb⟩:=hrel;by_cases hp:k < L.length
  ·obtain⟨g,o,rfl,_,p0,p1⟩:=wFA (HR.out.below hb) k hp;have a6:=hQ (mBB ev0 L k hp);obtain⟨x,hx⟩:∃ x,L[k]=x:=⟨_,rfl⟩;rw[hx] at p0 p1 a6;clear hx;have HLN:=hQ (xZA ev0 L k hk);have ik:(0:Int)<=(k:Int)/\(k:Int) < (L.length:Int):=dQ;go_wp2_with fail;refine (gUA x _).mono ?_;rintro e w1 ⟨rfl,d1⟩;have hO:OwnG encEv w1 w.heap.size (.slice (some ⟨w.heap.size,0,none⟩) (partG ev0 L k).length L.length) (partG ev0 L k):=by rw[HLN.out];exact (HO.out.below d1)
   have hst:=zIA hO k gQb x;rw[a6.out,HLN.out] at hst;have HST:=hQ hst;have y0:=sBA hO (k*2);obtain⟨u0,v0⟩:∃ u,w1.cell? ⟨w.heap.size,k*2,none⟩=some u:=by
    have:=qDA hO k gQb 0 iQ;rw[List.getElem?_eq_getElem (by rw[encEv.len];decide)] at this;exact⟨_,jQi⟩
   have y1:=sBA hO (k*2+1);obtain⟨u1,v1⟩:∃ u,w1.cell? ⟨w.heap.size,k*2+1,none⟩=some u:=by
    have:=qDA hO k gQb 1 iQ;rw[List.getElem?_eq_getElem (by rw[encEv.len];decide)] at this;exact⟨_,jQi⟩
   have d0:w.heap.size < w1.heap.size:=((World.ownsRow.lt hO) w.heap.size rfl).2;clear hO hst;have b1:=bstep hb d1;clear d1 hb;go_wp2;go_roundw
   case rel=>
    refine⟨k+1,dQ,bQe,hQ HST.out.1,?_⟩;have T:=HST.out.2;exact Below.grown b1 T (Nat.le_of_lt d0) (fun k ek=>by cases ek;exact Nat.le_refl _)
   case measure=>simp[intOf];omega
  ·obtain rfl:k=L.length:=dQ;have hO:=HO.out;rw[yAB] at hO;clear HO a8 b6;go_wp2;go_ret;exact⟨rfl,hO,hb⟩

end Go.Proofs.YtckfdbjjjgfbfaaGreat
