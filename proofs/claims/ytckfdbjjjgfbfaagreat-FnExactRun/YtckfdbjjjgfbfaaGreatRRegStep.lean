import Derived.Test.YtckfdbjjjgfbfaaGreatRPhr
import Derived.WalkKit
import Derived.RegionTactic
import Derived.Test.YtckfdbjjjgfbfaaGreatProg
import Derived.Test.YtckfdbjjjgfbfaaGreatRows
import Derived.WalkSpells
import Derived.WalkLawsBesides
import Derived.OwnWalk
import Derived.Lib.Hide
import Derived.Below
import Derived.WalkSmall
import Derived.Laws.MakeOwn
import Derived.Laws.OwnMore
import Derived.Deep.QuietTactic
import Derived.BigQuiet
import Derived.Deep.Draws
import Derived.RangeFuncBox
set_option linter.unusedVariables false
set_option linter.unusedSimpArgs false
set_option maxRecDepth 100000
namespace Go.Proofs.YtckfdbjjjgfbfaaGreat
open Go.RowKit
def lIA (n:Nat) (z:Array Bool):Nat:=((List.range n).filter fun i=>!z.getD i true).length
theorem iLA {p q:Nat->Bool} {i:Nat} (hp:p i=false) (hq:q i=true) (c7:∀ x,x≠i->p x=q x):∀ l:List Nat,(l.filter p).length<=(l.filter q).length/\(i ∈ l->(l.filter p).length < (l.filter q).length)
 | []=>⟨Nat.le_refl _,fun h=>by cases h⟩
 | x :: r=>by
  obtain⟨h1,h2⟩:=iLA hp hq c7 r;by_cases hx:x=i
  ·subst hx;rw[List.filter_cons_of_neg (by simp[hp]),List.filter_cons_of_pos hq,List.length_cons];exact⟨dQ,fun _=>dQ⟩
  ·have e:=c7 x hx;cases hv:q x with
   | false=>
    rw[List.filter_cons_of_neg (by simp[e,hv]),List.filter_cons_of_neg (by simp[hv])];exact⟨h1,fun h=>h2 ((List.mem_cons.1 h).resolve_left (Ne.symm hx))⟩
   | true=>
    rw[List.filter_cons_of_pos (by rw[e,hv]),List.filter_cons_of_pos hv,List.length_cons,List.length_cons];refine⟨dQ,fun h=>?_⟩;have:=h2 ((List.mem_cons.1 h).resolve_left (Ne.symm hx));omega
theorem sGA {n i:Nat} {z:Array Bool} (hi:i < n) (hl:z.getD i true=false):lIA n (z.setIfInBounds i true) < lIA n z:=by
 have b3:i < z.size:=by
  rcases Nat.lt_or_ge i z.size with h|h
  ·exact h
  ·rw[Array.getD_eq_getD_getElem?,Array.getElem?_eq_none h] at hl;simp at hl
 have e1:(z.setIfInBounds i true).getD i true=true:=by rw[Array.getD_eq_getD_getElem?,Array.getElem?_setIfInBounds_self_of_lt b3];rfl
 exact (iLA (p:=fun j=>!(z.setIfInBounds i true).getD j true) (q:=fun j=>!z.getD j true) (i:=i) (by rw[e1];rfl) (by rw[hl];rfl) (fun x hx=>by
  show (!(z.setIfInBounds i true).getD x true)=!z.getD x true;rw[Array.getD_eq_getD_getElem?,Array.getD_eq_getD_getElem?,Array.getElem?_setIfInBounds_ne (Ne.symm hx)]) (List.range n)).2 (List.mem_range.2 hi)
theorem zHA {md:Region.Mode} {E:Array Oper} {z:Array Bool} {i:Nat} (h:i ∈ Region.ready md E z):i < E.size/\z.getD i true=false:=by
 unfold Region.ready at h;rw[List.mem_filter,Bool.and_eq_true] at h;exact⟨List.mem_range.1 h.1,by simpa using h.2.1⟩
theorem rNA {P:Program} {md:Region.Mode} {E:Array Oper} {Q:Exit->Act->World->Prop} (I:Array Bool->Act->World->Prop)
  (a3:∀ z a w i,i ∈ Region.ready md E z->I z a w->wpOp P E Q i (I (z.setIfInBounds i true)) a w)
  (U:∀ z a w,Region.ready md E z=[]->I z a w->Q .normal a w) :
  ∀ (a4:Nat) (z:Array Bool) (a:Act) (w:World),lIA E.size z<=a4->I z a w->wpAny P md E Q a4 z a w
 | 0,z,a,w,hf,hI=>by
  have hr:Region.ready md E z=[]:=by
   cases h:Region.ready md E z with
   | nil=>rfl
   | cons i r=>
    have hm:i ∈ Region.ready md E z:=by rw[h];simp
    obtain⟨h1,h2⟩:=zHA hm;have:=sGA h1 h2;omega
  exact⟨hr,U z a w hr hI⟩
 | a4+1,z,a,w,hf,hI=>by
  refine⟨fun hr=>U z a w hr hI,fun i hi=>?_⟩;obtain⟨h1,h2⟩:=zHA hi;have:=sGA h1 h2;exact wpOp_mono (fun a w h=>rNA I a3 U a4 _ a w dQ h) (a3 z a w i hi hI)
def u8V (x:Nat):Value:=.int .u8 (x:Int)
def RowB (w:World) (a:Option Addr) (L:List Nat):Prop:=
 (∀ i,i < L.length->L.getD i 0 < 256)/\(0 < L.length->∃ g o,a=some ⟨g,o,none⟩/\g < w.heap.size/\∀ i,i < L.length->w.cell? ⟨g,o+i,none⟩=some (u8V (L.getD i 0)))
def OwnB (w:World) (base:Nat) (v:Value) (L:List Nat):Prop:=(∀ i,i < L.length->L.getD i 0 < 256)/\w.ownsRow base 5 1 v L.length (L.map u8V)
theorem addrB (g j:Nat):(⟨g,0,none⟩:Addr).add j=⟨g,j,none⟩:=by
 unfold Addr.add;split<;>simp_all
theorem OwnB.len {w:World} {base:Nat} {v:Value} {L:List Nat} (h:OwnB w base v L):∃ a cap,v=.slice a L.length cap:=by
 rcases h.2.2 with ⟨rfl,h0⟩|⟨g,cap,_,rfl,_⟩
 ·exact⟨none,0,by rw[h0]⟩
 ·exact⟨_,_,rfl⟩
theorem OwnB.row {w:World} {base:Nat} {a:Option Addr} {n cap:Nat} {L:List Nat} (h:OwnB w base (.slice a n cap) L):n=L.length/\RowB w a L:=by
 have h':=h.2;rcases h.2.2 with ⟨hv,h0⟩|⟨g,cp,a5,hv,hb,hg,h1,h2,h3,_⟩
 ·simp only[Value.slice.injEq] at hv;exact⟨dQ,h.1,fun hl=>dQ⟩
 ·simp only[Value.slice.injEq] at hv;obtain⟨rfl,rfl,rfl⟩:=hv;refine⟨rfl,h.1,fun _=>⟨g,0,rfl,(Array.getElem?_eq_some_iff.1 hg).1,fun i hi=>?_⟩⟩;have:=World.ownsRow.cells h' (g:=g) rfl i (u8V (L.getD i 0)) (by simp[List.getD,hi]);rw[addrB] at this
  rwa [Nat.zero_add]
theorem OwnB.below {w w':World} {base:Nat} {v:Value} {L:List Nat} (h:OwnB w base v L) (hb:Below w.heap.size w w'):OwnB w' base v L:=by
 refine⟨h.1,World.ownsRow.kept h.2 (row:=none) ⟨hb.os,hb.tape,hb.output,hb.size,fun i hi _=>hb.block i hi⟩ ?_⟩;cases v.ownBlock with
 | none=>exact .inl rfl
 | some g=>exact .inr xQ
theorem OwnB.drewN {w:World} {base:Nat} {v:Value} {L:List Nat} (h:OwnB w base v L) (k:Nat):OwnB (w.drewN k) base v L:=h
theorem RowB.below {w w':World} {a:Option Addr} {L:List Nat} (h:RowB w a L) (hb:Below w.heap.size w w'):RowB w' a L:=by
 refine⟨h.1,fun hl=>?_⟩;obtain⟨g,o,rfl,hg,hc⟩:=h.2 hl;exact⟨g,o,rfl,Nat.lt_of_lt_of_le hg hb.size,fun i hi=>(hb.cell (p:=⟨g,o+i,none⟩) hg).trans (hc i hi)⟩
theorem RowB.drewN {w:World} {a:Option Addr} {L:List Nat} (h:RowB w a L) (k:Nat):RowB (w.drewN k) a L:=h
theorem xFA:(Tryz.prog.info? 5).map (fun i=>(i.zero,i.size,i.bytes))=some (some (.int .u8 0),1,1):=gQ
theorem aGB (v:Value) (n:Nat):madeCells #[v] n=(List.replicate n v).toArray:=by
 apply Array.ext
 ·simp[madeCells]
 ·intro i h1 h2;simp[madeCells,Nat.mod_one]
theorem makeB (d:Nat) (h:d<=1048576) (w:World):(Instr.makeSlice 22 (.int .i64 (d:Int)) (.int .i64 (d:Int))).run Tryz.prog w =
  .ok (.slice (some ⟨w.heap.size,0,none⟩) d d) (w.alloc (.cells (List.replicate d (Value.int .u8 0)).toArray 5)):=by
 obtain⟨i0,hi,hz0,hz1,d0⟩:=info_parts xFA;have hr:=run_make (P:=Tryz.prog) w 22 5 i0 (.int .u8 0) Tryz.underlying22 hi hz0 .i64 .i64 d d dQ dQ (by rw[d0];omega) dQ;simp only[Int.toNat_natCast] at hr;rw[hr,hz1,Nat.mul_one];congr 3;exact aGB _ _
def partB (L:List Nat) (k:Nat):List Value:=(L.take k).map u8V++List.replicate (L.length - k) (.int .u8 0)
theorem kBB (L:List Nat) (k:Nat) (hk:k<=L.length):(partB L k).length=L.length:=by simp[partB];omega
theorem vAB (L:List Nat) (k:Nat) (hk:k < L.length):(partB L k).toArray.setIfInBounds k (u8V (L.getD k 0))=(partB L (k+1)).toArray:=by
 apply Array.ext';simp only[Array.toList_setIfInBounds,partB];rw[List.set_append_right _ _ qQ];have e1:k - ((L.take k).map u8V).length=0:=qQ;obtain⟨m,hm⟩:∃ m,L.length - k=m+1:=⟨L.length - k - 1,dQ⟩;rw[e1,hm,List.replicate_succ,List.set_cons_zero,show L.length - (k+1)=m by omega,List.take_add_one,List.map_append];simp[List.getD,hk]
theorem vEB (L:List Nat) (k:Nat) (hk:k < L.length):(partB L k).toArray[k]?=some (.int .u8 0):=by
 simp only[List.getElem?_toArray,partB];have e:((L.take k).map u8V).length=k:=qQ;rw[List.getElem?_append_right dQ,e,Nat.sub_self,List.getElem?_replicate,if_pos dQ]
theorem hHB (a:Option Addr) (cap:Nat) (L:List Nat) (w:World) (hl:L.length<=1048576) (h:RowB w a L) :
  Calls Tryz.prog 50 #[.slice a L.length cap] w fun e w'=>e=.returned (.slice (some ⟨w.heap.size,0,none⟩) L.length L.length)/\w.alloc (.cells (L.map u8V).toArray 5)=w':=by
 have d8:=fun w=>makeB L.length hl w
 have b6:partB L 0=List.replicate L.length (.int .u8 0):=by simp[partB]
 have b8:partB L L.length=L.map u8V:=by simp[partB]
 have d2:=hQ b6;have d1:=hQ b8;clear b6 b8;have HR:=hQ h;clear h;go_enter Tryz.func50,Tryz.ntmps50;go_wp2;go_loopw [4] (fun i wr=>∃ (k:Nat) (C:Array Value),k<=L.length/\i=.int .i64 k/\wr=w.alloc (.cells C 5)/\Hid (C=(partB L k).toArray)) (fun i _=>L.length - (intOf i).toNat)
 case atStart=>exact⟨0,(List.replicate L.length (.int .u8 0)).toArray,Nat.zero_le _,rfl,rfl,hQ (by rw[d2.out])⟩
 case round=>
  obtain⟨k,C,hk,rfl,rfl,HC⟩:=hrel;by_cases hp:k < L.length
  ·obtain⟨g,o,rfl,hg,hc⟩:=HR.out.2 dQ;have b9:=hc k hp;have J:(w.alloc (.cells C 5)).cell? ⟨g,o+k,none⟩=some (u8V (L.getD k 0)):=by rw[World.cell?_alloc_past _ _ _ hg];exact b9
   have d4:(w.alloc (.cells C 5)).cell? ⟨w.heap.size,k,none⟩=some (.int .u8 0):=by
    rw[World.cell?_alloc_at _ _ _ _ rfl,HC.out];exact vEB L k hp
   have b3:C.size=L.length:=by rw[HC.out];simpa using kBB L k hk
   have a7:C.setIfInBounds k (u8V (L.getD k 0))=(partB L (k+1)).toArray:=by rw[HC.out];exact vAB L k hp
   clear hc b9;obtain⟨x,hx⟩:∃ x,L.getD k 0=x:=⟨_,rfl⟩;rw[hx] at J a7;have b4:=hQ a7;clear a7 hx;unfold u8V at J;go_wp2;go_roundw
   case rel=>exact⟨k+1,_,dQ,bQe,rfl,hQ (by rw[<-b4.out];rfl)⟩
   case measure=>simp[intOf];omega
  ·obtain rfl:k=L.length:=dQ;go_wp2;go_ret;exact⟨rfl,by rw[HC.out,d1.out]⟩
theorem sDB (a1 a2:Option Addr) (c1 c2:Nat) (L:List Nat) (w:World) (hl:L.length<=9223372036854775806) (h1:RowB w a1 L) (h2:RowB w a2 L) :
  Calls Tryz.prog 56 #[.slice a1 L.length c1,.slice a2 L.length c2] w fun e w'=>e=.returned (.bool true)/\∃ k,w'=w.drewN k:=by
 have H1:=hQ h1;have H2:=hQ h2;clear h1 h2;go_enter Tryz.func56,Tryz.ntmps56;go_wp2;go_loopw [5] (fun i wr=>∃ k d:Nat,k<=L.length/\i=.int .i64 k/\wr=w.drewN d) (fun i _=>L.length - (intOf i).toNat)
 case atStart=>exact⟨0,0,Nat.zero_le _,rfl,rfl⟩
 case round=>
  obtain⟨k,d,hk,rfl,rfl⟩:=hrel;by_cases hp:k < L.length
  ·obtain⟨g1,o1,rfl,_,e1⟩:=H1.out.2 dQ;obtain⟨g2,o2,rfl,_,e2⟩:=H2.out.2 dQ;have f1:=e1 k hp;have f2:=e2 k hp;clear e1 e2;obtain⟨x,hx⟩:∃ x,L.getD k 0=x:=⟨_,rfl⟩;rw[hx] at f1 f2;clear hx;unfold u8V at f1 f2;go_wp2;go_quiet (fail);go_wp2;go_roundw
   case rel=>exact⟨k+1,_,dQ,bQe,rfl⟩
   case measure=>simp[intOf];omega
  ·go_wp2;go_ret;exact⟨rfl,_,rfl⟩
theorem fDA {x y u:World} {row:Option Nat} (h:x.grownBy y row) (k:y.grownBy u row):x.grownBy u row:=
 ⟨k.os.trans h.os,k.tape.trans h.tape,k.output.trans h.output,Nat.le_trans h.size k.size,fun j hj hn=>(k.block j (Nat.lt_of_lt_of_le hj h.size) hn).trans (h.block j hj hn)⟩
def pDA (k n:Nat):List Nat:=(List.range n).map fun j=>(k+j) % 256
theorem jGA (k n:Nat):(pDA k n).length=n:=by simp[pDA]
theorem yBB (k n j:Nat) (hj:j < n):(pDA k n).getD j 0=(k+j) % 256:=by simp[pDA,List.getD,hj]
def wEA (L:List Nat) (k j:Nat):List Nat:=pDA k j++L.drop j
theorem aLA (L:List Nat) (k j:Nat) (hj:j<=L.length):(wEA L k j).length=L.length:=by simp[wEA,jGA];omega
theorem pKA (L:List Nat) (k j:Nat) (hj:j < L.length):(wEA L k j).set j ((k+j) % 256)=wEA L k (j+1):=by
 unfold wEA;rw[List.set_append_right _ _ (by simp[jGA]),jGA,Nat.sub_self,List.drop_eq_getElem_cons hj,List.set_cons_zero];simp[pDA,List.range_succ]
theorem rAB (g n cap k0:Nat) (base:Nat) (L:List Nat) (w:World) (hn:n=L.length) (hb:k0+n<=9223372036854775806) (h:OwnB w base (.slice (some ⟨g,0,none⟩) n cap) L) :
  Calls Tryz.prog 58 #[.slice (some ⟨g,0,none⟩) n cap,.int .i64 k0] w fun e w'=>e=.returned (.int .i64 (k0+n:Nat))/\OwnB w' base (.slice (some ⟨g,0,none⟩) n cap) (pDA k0 n)/\w.grownBy w' (some g):=by
 subst hn;have H:=hQ h;clear h;go_enter Tryz.func58,Tryz.ntmps58;go_wp2;go_loopw [1,5] (fun kk i wr=>∃ (j:Nat),j<=L.length/\i=.int .i64 j/\kk=.int .i64 (k0+j:Nat)/\Hid (OwnB wr base (.slice (some ⟨g,0,none⟩) L.length cap) (wEA L k0 j))/\w.grownBy wr (some g)) (fun _ i _=>L.length - (intOf i).toNat)
 case atStart=>exact⟨0,Nat.zero_le _,rfl,rfl,hQ (by simpa [wEA,pDA] using H.out),World.grownBy.refl _ _⟩
 case round=>
  obtain⟨j,hj,rfl,rfl,HO,hgr⟩:=hrel;by_cases hp:j < L.length
  ·have hO:=HO.out;have a8:=aLA L k0 j hj;obtain⟨_,hr⟩:=hO.row;obtain⟨g',o',b5,hg,hc⟩:=hr.2 dQ;simp only[Option.some.injEq,Addr.mk.injEq,and_true] at b5;obtain⟨rfl,rfl⟩:=b5;have J:=hc j dQ;rw[Nat.zero_add] at J;obtain⟨x,hx⟩:∃ x,(wEA L k0 j).getD j 0=x:=⟨_,rfl⟩;rw[hx] at J;clear hx;unfold u8V at J;have b1:wr.ownsRow base 5 1 (.slice (some ⟨g,0,none⟩) L.length cap) L.length ((wEA L k0 j).map u8V):=by
    have:=hO.2;rwa [a8] at this
   have d6:=World.ownsRow.frozenAt b1 j;have hst:=World.ownsRow.stored b1 j (u8V ((k0+j) % 256));have HST:=hQ hst;have d3:=hQ a8;have HB:=hQ hO.1;clear hO hr hc hst b1 a8;go_wp2;go_roundw
   case rel=>
    have e:(.int .u8 (((k0:Int)+(j:Int)) % 256):Value)=u8V ((k0+j) % 256):=by simp[u8V]
    refine⟨j+1,dQ,bQe,bQe,hQ ?_,?_⟩
    ·rw[e];refine⟨fun i hi=>?_,?_⟩
     ·rw[<-pKA L k0 j hp] at hi ⊢;rw[List.length_set] at hi;by_cases b7:i=j
      ·subst b7;simp only[List.getD,List.getElem?_set_self hi,Option.getD_some];omega
      ·simp only[List.getD,List.getElem?_set_ne (Ne.symm b7)];exact HB.out i hi
     ·rw[aLA _ _ _ dQ,<-pKA L k0 j hp,List.map_set];exact HST.out.1
    ·rw[e];exact fDA hgr HST.out.2
   case measure=>simp[intOf];omega
  ·obtain rfl:j=L.length:=dQ;go_wp2;go_ret;refine⟨rfl,?_,hgr⟩;have:=HO.out;simpa [wEA] using this
theorem gVA (a:Option Addr) (cap:Nat) (k0:Int) (w:World) :
  Calls Tryz.prog 58 #[.slice a 0 cap,.int .i64 k0] w fun e w'=>e=.returned (.int .i64 k0)/\w=w':=by
 go_enter Tryz.func58,Tryz.ntmps58;go_wp2;refine wp_loop_rounds 1 ?_;rw[rounds_succ];go_wp2;go_ret;exact⟨rfl,rfl⟩
theorem mAB (a:Option Addr) (n cap k0:Nat) (w:World) (hb:k0+n<=9223372036854775806) (h:RowB w a (pDA k0 n)) :
  Calls Tryz.prog 93 #[.slice a n cap,.int .i64 k0] w fun e w'=>e=.returned (.int .i64 (k0+n:Nat))/\w=w':=by
 have H:=hQ h;clear h;go_enter Tryz.func93,Tryz.ntmps93;go_wp2;go_loop [1,5] (fun kk i=>∃ (j:Nat),j<=n/\i=.int .i64 j/\kk=.int .i64 (k0+j:Nat)) (fun _ i=>n - (intOf i).toNat)
 case atStart=>exact⟨0,Nat.zero_le _,rfl,rfl⟩
 case round=>
  obtain⟨j,hj,rfl,rfl⟩:=hrel;by_cases hp:j < n
  ·obtain⟨g,o,rfl,_,hc⟩:=H.out.2 (by rw[jGA];omega);have J:=hc j (by rw[jGA];exact hp);rw[yBB _ _ _ hp] at J;have e:u8V ((k0+j) % 256)=(.int .u8 (((k0:Int)+(j:Int)) % 256):Value):=by simp[u8V]
   rw[e] at J;clear hc e;go_wp2;go_round
   case rel=>exact⟨j+1,dQ,bQe,bQe⟩
   case measure=>simp[intOf];omega
  ·obtain rfl:j=n:=dQ;go_wp2;go_ret;exact⟨rfl,rfl⟩
theorem OwnB.base {w:World} {b b':Nat} {v:Value} {L:List Nat} (h:OwnB w b v L) (hb:b'<=b):OwnB w b' v L:=by
 refine⟨h.1,h.2.1,?_⟩;rcases h.2.2 with hn|⟨g,cap,a5,hv,hg,c9⟩
 ·exact .inl hn
 ·exact .inr ⟨g,cap,a5,hv,Nat.le_trans hb hg,c9⟩
theorem OwnB.cells {w:World} {base:Nat} {v:Value} {L:List Nat} (h:OwnB w base v L) (hl:0 < L.length):∃ g cap,v=.slice (some ⟨g,0,none⟩) L.length cap/\∀ j u,(L.map u8V)[j]?=some u->w.cell? ((⟨g,0,none⟩:Addr).add j)=some u:=by
 have h':=h.2;rcases h.2.2 with ⟨_,h0⟩|⟨g,cap,a5,rfl,_⟩
 ·omega
 ·exact⟨g,cap,rfl,World.ownsRow.cells h' (g:=g) rfl⟩
theorem oFA (L:List Nat):∀ u ∈ L.map u8V,u.oneCell'=true:=by
 intro u hu;obtain⟨x,_,rfl⟩:=List.mem_map.1 hu;rfl
theorem RowB.byte' {w:World} {a:Option Addr} {L:List Nat} (h:RowB w a L) (i:Nat):L.getD i 0 < 256:=by
 by_cases hi:i < L.length
 ·exact h.1 i hi
 ·simp[List.getD,List.getElem?_eq_none (by omega:L.length<=i)]
theorem zEA {w w':World} {base g:Nat} {v:Value} {L:List Nat} (h:OwnB w base v L) (hg:w.grownBy w' (some g)) (hne:∀ k,v.ownBlock=some k->k≠g):OwnB w' base v L:=by
 refine⟨h.1,World.ownsRow.kept h.2 hg ?_⟩;cases hv:v.ownBlock with
 | none=>exact .inl rfl
 | some k=>exact .inr (by simpa using hne k hv)
theorem xIB (w:World) (L:List Nat) (hL:L.length<=3) (hb:∀ i,i < L.length->L.getD i 0 < 256):OwnB (w.alloc (.cells (L.map u8V).toArray 5)) w.heap.size (.slice (some ⟨w.heap.size,0,none⟩) L.length L.length) L:=
 ⟨hb,xQ,.inr ⟨w.heap.size,L.length,(L.map u8V).toArray,rfl,Nat.le_refl _,heap_alloc_new w _,Nat.le_refl _,wQc,xQ,by simp[List.take_of_length_le]⟩⟩
theorem zDA (w:World) (B:Nat):OwnB w B (.slice none 0 0) []:=⟨fun i hi=>by simp at hi,World.ownsRow_nil _ _ _ _⟩
theorem bstep {w a b:World} (h:Below w.heap.size w a) (k:Below a.heap.size a b):Below w.heap.size w b:=h.trans (k.mono h.size)
theorem bJA {w w1:World} {g o:Nat} {v:Value} (hb:Below w.heap.size w w1) (h:w.cell? ⟨g,o,none⟩=some v) (hg:g < w.heap.size):w1.cell? ⟨g,o,none⟩=some v:=by
 rw[hb.cell (p:=⟨g,o,none⟩) hg];exact h
theorem yFA {base B:Nat} (w:World) (hB:B=w.heap.size) (hb:base<=w.heap.size):(w.alloc (.cells #[] 5)).ownsRow base 5 1 (.slice (some ⟨B,0,none⟩) 0 0) 0 []:=by
 subst hB;exact World.ownsRow_made w #[] 0 hb iQ rfl
structure Span (lo hi:Nat) (w w':World):Prop where
 os:w'.os=w.os
 tape:w'.tape=w.tape
 output:w'.output=w.output
 size:w.heap.size<=w'.heap.size
 block:∀ i,i < w.heap.size->i < lo\/hi<=i->w'.heap[i]?=w.heap[i]?
theorem Span.of_grown {w w':World} {lo hi g:Nat} (h:w.grownBy w' (some g)) (h1:lo<=g) (h2:g < hi):Span lo hi w w':=
 ⟨h.os,h.tape,h.output,h.size,fun i R hd=>h.block i R (by intro e;simp only[Option.some.injEq] at e;omega)⟩
theorem Span.of_below {w w':World} (lo hi:Nat) (h:Below w.heap.size w w'):Span lo hi w w':=
 ⟨h.os,h.tape,h.output,h.size,fun i R _=>h.block i R⟩
theorem Span.trans {lo hi:Nat} {a b c:World} (h:Span lo hi a b) (k:Span lo hi b c):Span lo hi a c:=
 ⟨k.os.trans h.os,k.tape.trans h.tape,k.output.trans h.output,Nat.le_trans h.size k.size,fun i R hd=>(k.block i (Nat.lt_of_lt_of_le R h.size) hd).trans (h.block i R hd)⟩
theorem Span.wide {lo hi a6 R:Nat} {a b:World} (h:Span lo hi a b) (h1:a6<=lo) (h2:hi<=R):Span a6 R a b:=
 ⟨h.os,h.tape,h.output,h.size,fun i R hd=>h.block i R dQ⟩
theorem Span.below {lo hi n:Nat} {a b:World} (h:Span lo hi a b) (h1:n<=lo) (h2:n<=a.heap.size):Below n a b:=
 ⟨h.os,h.tape,h.output,h.size,fun i R=>h.block i dQ (.inl dQ)⟩
theorem Span.set (w:World) (B k:Nat) (v:Value):Span B (B+1) w (w.setCell ⟨B,k,none⟩ v):=
 ⟨rfl,rfl,rfl,xQ,fun i _ hd=>Below.heap_setCell _ _ _ _ (by show i≠B;omega)⟩
def BoxN (W:World) (B:Nat) (t:TypeId) (cs:Array Value):Prop:=W.heap[B]?=some (.cells cs t (0,0))
theorem BoxN.lt {W:World} {B:Nat} {t:TypeId} {cs:Array Value} (h:BoxN W B t cs):B < W.heap.size:=(Array.getElem?_eq_some_iff.1 h).1
theorem BoxN.cell {W:World} {B:Nat} {t:TypeId} {cs:Array Value} (h:BoxN W B t cs) (i:Nat) (v:Value) (hv:cs[i]?=some v):W.cell? ⟨B,i,none⟩=some v:=by
 simp[World.cell?,show W.heap[B]?=_ from h,hv]
theorem BoxN.frozen {W:World} {B:Nat} {t:TypeId} {cs:Array Value} (h:BoxN W B t cs) (i:Nat):W.frozen? ⟨B,i,none⟩=false:=by
 simp[World.frozen?,show W.heap[B]?=_ from h]
theorem BoxN.new (W:World) (t:TypeId) (cs:Array Value):BoxN (W.alloc (.cells cs t)) W.heap.size t cs:=World.alloc_heap_new W _
theorem BoxN.below {w w1:World} {B:Nat} {t:TypeId} {cs:Array Value} (h:BoxN w B t cs) (hb:Below w.heap.size w w1):BoxN w1 B t cs:=(hb.block B h.lt).trans h
theorem BoxN.span {w w1:World} {lo hi B:Nat} {t:TypeId} {cs:Array Value} (h:BoxN w B t cs) (hs:Span lo hi w w1) (hd:B < lo\/hi<=B):BoxN w1 B t cs:=(hs.block B h.lt hd).trans h
theorem BoxN.set {W:World} {B:Nat} {t:TypeId} {cs:Array Value} (h:BoxN W B t cs) (i:Nat) (v:Value):BoxN (W.setCell ⟨B,i,none⟩ v) B t (cs.setIfInBounds i v):=heap_setCell_same W B i cs t v h
theorem BoxN.drew {W:World} {B:Nat} {t:TypeId} {cs:Array Value} (h:BoxN W B t cs):BoxN W.drew B t cs:=h
theorem boxN_of {W:World} {B:Nat} {t:TypeId} {v:Value} (h:Boxed W B t v):BoxN W B t #[v]:=h
def SegB (w:World) (lo hi:Nat) (v:Value) (L:List Nat):Prop:=OwnB w lo v L/\∀ k,v.ownBlock=some k->k < hi
theorem SegB.of {w:World} {lo:Nat} {v:Value} {L:List Nat} (h:OwnB w lo v L):SegB w lo w.heap.size v L:=⟨h,fun k ek=>((World.ownsRow.lt h.2) k ek).2⟩
theorem SegB.below {w w':World} {lo hi:Nat} {v:Value} {L:List Nat} (h:SegB w lo hi v L) (hb:Below w.heap.size w w'):SegB w' lo hi v L:=⟨h.1.below hb,h.2⟩
theorem SegB.drew {w:World} {lo hi:Nat} {v:Value} {L:List Nat} (h:SegB w lo hi v L):SegB w.drew lo hi v L:=h
theorem SegB.span {w w':World} {lo hi a6 R:Nat} {v:Value} {L:List Nat} (h:SegB w lo hi v L) (hs:Span a6 R w w') (hd:hi<=a6\/R<=lo):SegB w' lo hi v L:=by
 refine⟨⟨h.1.1,?_⟩,h.2⟩;have ho:=h.1.2;rcases ho.2 with hn|⟨g,cap,a5,hv,hb,hg,a9⟩
 ·exact⟨ho.1,.inl hn⟩
 ·have d9:g < hi:=h.2 g (by rw[hv];rfl);refine⟨ho.1,.inr ⟨g,cap,a5,hv,hb,?_,a9⟩⟩;rw[hs.block g (Array.getElem?_eq_some_iff.1 hg).1 dQ];exact hg
theorem SegB.len {w:World} {lo hi:Nat} {v:Value} {L:List Nat} (h:SegB w lo hi v L):∃ a cap,v=.slice a L.length cap/\L.length<=cap:=by
 rcases h.1.2.2 with ⟨rfl,h0⟩|⟨g,cap,a5,rfl,hb,hg,h1,_⟩
 ·exact⟨none,0,by rw[h0],dQ⟩
 ·exact⟨_,_,rfl,h1⟩
theorem SegB.row {w:World} {lo hi:Nat} {a:Option Addr} {n cap:Nat} {L:List Nat} (h:SegB w lo hi (.slice a n cap) L):RowB w a L:=h.1.row.2
def nAA (n:Nat):Code->Option (Array Oper)
 | .region id E _=>if id==n then some E else none
 | .seq a b=>(nAA n a).orElse fun _=>nAA n b
 | .cond _ a b=>(nAA n a).orElse fun _=>nAA n b
 | .block _ c=>nAA n c
 | .loop c=>nAA n c
 | .scope c=>nAA n c
 | .rangeFunc _ _ a b=>(nAA n a).orElse fun _=>nAA n b
 | _=>none
def pCA (E:Array Oper):Bool:=(List.range E.size).all fun i=>((E[i]?).map (·.after.all fun e=>decide (e.on < i) || !Region.binds .any e)).getD true
theorem dJA {E:Array Oper} {z:Array Bool} (hb:pCA E=true) (hr:Region.ready .any E z=[]) (hs:z.size=E.size) :
  ∀ n j,j < n->j < E.size->z.getD j false=true
 | 0,j,h,_=>absurd h (Nat.not_lt_zero j)
 | n+1,j,h,hj=>by
  have ih:=dJA hb hr hs n;cases hl:z.getD j true with
  | true=>
   rw[Array.getD_eq_getD_getElem?,Array.getElem?_eq_getElem dQ] at hl ⊢;exact hl
  | false=>
   have hm:j ∈ Region.ready .any E z:=by
    refine mem_ready.2 ⟨hl,E[j],Array.getElem?_eq_getElem hj,fun e he b0=>?_⟩;have b2:e.on < j:=by
     unfold pCA at hb;have h1:=List.all_eq_true.1 hb j (List.mem_range.2 hj);rw[Array.getElem?_eq_getElem hj] at h1;simp only[Option.map_some,Option.getD_some] at h1;have h2:=Array.all_eq_true_iff_forall_mem.1 h1 e he;rw[b0,Bool.not_true,Bool.or_false] at h2;exact of_decide_eq_true h2
    exact ih e.on dQ dQ
   rw[hr] at hm;cases hm
theorem pBA {P:Program} {E:Array Oper} {Q:Exit->Act->World->Prop} (hm:P.follows .mixedOrders=true) (hb:pCA E=true)
  (I:(Nat->Prop)->Act->World->Prop)
  (a3:∀ i,i < E.size->∀ (D:Nat->Prop) a w,¬ D i->(∀ o,E[i]?=some o->∀ e ∈ o.after,Region.binds .any e=true->D e.on)->I D a w->wpOp P E Q i (I fun j=>j=i\/D j) a w)
  (U:∀ D a w,(∀ j,j < E.size->D j)->I D a w->Q .normal a w)
  (id:Nat) (a:Act) (w:World) (h0:I (fun _=>False) a w.drew):(Code.region id E true).wp P Q a w:=by
 refine wp_region_any hm ?_;refine rNA (fun z a w=>z.size=E.size/\I (fun j=>z.getD j false=true) a w) ?_ ?_ _ _ _ _ ?_ ?_
 ·intro z a w i hi ⟨hs,hI⟩;obtain⟨h1,o,ho,c8⟩:=mem_ready.1 hi;have b2:i < E.size:=(Array.getElem?_eq_some_iff.1 ho).1;have hn:¬ z.getD i false=true:=by
   rw[Array.getD_eq_getD_getElem?,Array.getElem?_eq_getElem dQ] at h1 ⊢;rw[show z[i]=false from h1];exact Bool.false_ne_true
  refine wpOp_mono ?_ (a3 i b2 _ a w hn (fun o' c0 e he b0=>by rw[ho] at c0;cases c0;exact c8 e he b0) hI);intro a' w' h;refine⟨by rw[Array.size_setIfInBounds];exact hs,?_⟩;have e:(fun j=>(z.setIfInBounds i true).getD j false=true)=fun j=>j=i\/z.getD j false=true:=by
   funext j;by_cases hj:j=i
   ·subst hj;rw[Array.getD_eq_getD_getElem?,Array.getElem?_setIfInBounds_self_of_lt dQ];simp
   ·rw[getD_set_ne false (Ne.symm hj)];simp[hj]
  rw[e];exact h
 ·intro z a w hr ⟨hs,hI⟩;exact U _ a w (fun j hj=>dJA hb hr hs (j+1) j (Nat.lt_succ_self j) hj) hI
 ·unfold lIA;exact Nat.le_trans (List.length_filter_le _ _) xQ
 ·refine⟨xQ,?_⟩;have e:(fun j=>(Array.replicate E.size false).getD j false=true)=fun _=>False:=by
   funext j;rw[Array.getD_eq_getD_getElem?,Array.getElem?_replicate];split<;>simp
  rw[e];exact h0
abbrev IsOp (E:Array Oper) (i:Nat) (dst:Option Tmp) (op:Op):Prop:=(E[i]?).map (fun o=>(o.dst,o.op,o.guard))=some (dst,op,none)
theorem isOp {E:Array Oper} {i:Nat} {dst:Option Tmp} {op:Op} (h:IsOp E i dst op):∃ o,E[i]?=some o/\o.guard=none/\o.dst=dst/\o.op=op:=by
 unfold IsOp at h;cases ho:E[i]? with
 | none=>rw[ho] at h;cases h
 | some o=>
  rw[ho] at h;simp only[Option.map_some,Option.some.injEq,Prod.mk.injEq] at h;exact⟨o,rfl,h.2.2,h.1,h.2.1⟩
abbrev Waits (E:Array Oper) (i j:Nat):Prop:=((E[i]?).map fun o=>o.after.any fun e=>Region.binds .any e && e.on==j).getD false=true
theorem waits {E:Array Oper} {i j:Nat} {D:Nat->Prop} (h:Waits E i j) (hd:∀ o,E[i]?=some o->∀ e ∈ o.after,Region.binds .any e=true->D e.on):D j:=by
 unfold Waits at h;cases ho:E[i]? with
 | none=>rw[ho] at h;cases h
 | some o=>
  rw[ho] at h;simp only[Option.map_some,Option.getD_some] at h;obtain⟨e,he,hb⟩:=Array.any_eq_true'.1 h;rw[Bool.and_eq_true,beq_iff_eq] at hb;have:=hd o ho e he hb.1
  rwa [hb.2] at this
section
variable {P:Program} {E:Array Oper} {Q:Exit->Act->World->Prop} {K:Act->World->Prop} {a:Act} {w w':World} {i d:Nat} {v:Value}
theorem rKA {o:Oper} (ho:E[i]?=some o) (hg:o.guard=none) (h:Oper.wp P o a w K Q):wpOp P E Q i K a w:=by
 unfold wpOp;rw[ho];have hw:Region.wanted o (yielded E a.tmps)=true:=by unfold Region.wanted;rw[hg]
 simp only[hw,if_true];exact .inl h
theorem oAA {op:Op} (O:IsOp E i (some d) op) (h:∀ o,o.op=op->(execOp a.eval o).run P w=.ok (.value v) w') (hK:K (a.put (some d) v) w'):wpOp P E Q i K a w:=by
 obtain⟨o,h1,h2,h3,h4⟩:=isOp O;refine rKA h1 h2 ?_;unfold Oper.wp;rw[h o h4,Oper.upon_value,h3];exact hK
theorem gAB {op:Op} (O:IsOp E i none op) (h:∀ o,o.op=op->(execOp a.eval o).run P w=.ok .skip w') (hK:K a w'):wpOp P E Q i K a w:=by
 obtain⟨o,h1,h2,h3,h4⟩:=isOp O;refine rKA h1 h2 ?_;unfold Oper.wp;rw[h o h4,Oper.upon_skip,h3];exact hK
theorem zXA {op:Op} {f:FuncId} {args:Array Value} (O:IsOp E i (some d) op) (h:∀ o,o.op=op->(execOp a.eval o).run P w=.ok (.enter f args) w)
  (hC:Calls P f args w fun e w'=>∃ v,e=.returned v/\K (a.put (some d) v) w'):wpOp P E Q i K a w:=by
 obtain⟨o,h1,h2,h3,h4⟩:=isOp O;refine rKA h1 h2 ?_;unfold Oper.wp;rw[h o h4,Oper.upon_enter,h3];refine hC.mono ?_;rintro e d7 ⟨v,rfl,hk⟩;exact hk
theorem tCA {x:Operand} (O:IsOp E i (some d) (.move x)) (hs:a.eval x=v) (hK:K (a.put (some d) v) w):wpOp P E Q i K a w:=
 oAA O (fun o ho=>by unfold execOp;rw[ho];dsimp only;rw[hs];rfl) hK
theorem wHA {x:Operand} (O:IsOp E i (some d) (.assign x)) (hs:a.eval x=v) (hK:K (a.put (some d) v) w):wpOp P E Q i K a w:=
 oAA O (fun o ho=>by unfold execOp;rw[ho];dsimp only;rw[hs];rfl) hK
theorem vBA {t:TypeId} {x:Operand} {p:Value} (O:IsOp E i (some d) (.load t x)) (hs:a.eval x=p) (hr:(Instr.loadAt t p).run P w=.ok v w) (hK:K (a.put (some d) v) w):wpOp P E Q i K a w:=
 oAA O (fun o ho=>by unfold execOp;rw[ho];dsimp only;rw[hs,Sem.run_bind,hr];rfl) hK
theorem rHA {t:TypeId} (O:IsOp E i (some d) (.alloc t)) (hr:(Instr.alloc t true (.tuple #[])).run P w=.ok v w') (hK:K (a.put (some d) v) w'):wpOp P E Q i K a w:=
 oAA O (fun o ho=>by unfold execOp;rw[ho];dsimp only;rw[Sem.run_bind,hr];rfl) hK
theorem sDA {x:Operand} {k:Nat} {vs:Array Value} (O:IsOp E i (some d) (.extract x k)) (hs:a.eval x=.tuple vs) (hk:vs[k]?=some v) (hK:K (a.put (some d) v) w):wpOp P E Q i K a w:=
 oAA O (fun o ho=>by unfold execOp;rw[ho];dsimp only;rw[hs];simp[go_sem,Instr.extract,hk]) hK
theorem xDA {t:TypeId} {x y:Operand} {p:Value} (O:IsOp E i none (.store t x y)) (hs:a.eval x=p) (hy:a.eval y=v) (hr:(Instr.storeAt t p v).run P w=.ok () w') (hK:K a w'):wpOp P E Q i K a w:=
 gAB O (fun o ho=>by unfold execOp;rw[ho];dsimp only;rw[hs,hy,Sem.run_bind,hr];rfl) hK
theorem mDB {t:TypeId} {n:Nat} {ps:Array (Nat×Operand)} (O:IsOp E i (some d) (.buildSlice t n ps)) (hr:(Instr.buildSlice t n (ps.map fun (k,x)=>(k,a.eval x))).run P w=.ok v w') (hK:K (a.put (some d) v) w'):wpOp P E Q i K a w:=
 oAA O (fun o ho=>by unfold execOp;rw[ho];dsimp only;rw[Sem.run_bind,hr];rfl) hK
theorem jAA {u:Value}:a.eval (.const u)=u:=rfl
theorem bAA (h:d < a.tmps.size):(a.put (some d) v).eval (.tmp d)=v:=by
 simp[Act.eval,Act.put,h]
theorem aAA {t:Nat} (h:t≠d):(a.put (some d) v).eval (.tmp t)=a.eval (.tmp t):=by
 simp[Act.eval,Act.put,Array.getElem?_setIfInBounds_ne (Ne.symm h)]
end
structure tAA (a0:Act) (ws:List Nat) (a:Act):Prop where
 defers:a.defers=a0.defers
 size:a.tmps.size=a0.tmps.size
 keep:∀ t,t ∉ ws->a.tmps[t]?=a0.tmps[t]?
theorem tAA.refl (a0:Act) (ws:List Nat):tAA a0 ws a0:=⟨rfl,rfl,fun _ _=>rfl⟩
theorem tAA.put {a0 a:Act} {ws:List Nat} (h:tAA a0 ws a) {d:Nat} (hd:d ∈ ws) (v:Value):tAA a0 ws (a.put (some d) v):=
 ⟨h.defers,by show (a.tmps.setIfInBounds d v).size=_;rw[Array.size_setIfInBounds];exact h.size,fun t ht=>by
  show (a.tmps.setIfInBounds d v)[t]?=_;rw[Array.getElem?_setIfInBounds_ne (fun e=>ht (by rw[<-e];exact hd))];exact h.keep t ht⟩
theorem tAA.eval {a0 a:Act} {ws:List Nat} (h:tAA a0 ws a) {t:Nat} (ht:t ∉ ws):a.eval (.tmp t)=a0.eval (.tmp t):=by
 simp only[Act.eval,Array.getD_eq_getD_getElem?];rw[h.keep t ht]
def vJA (b:Array Value) (f:Nat->Value):List Nat->Array Value
 | []=>b
 | k :: r=>vJA (b.setIfInBounds k (f k)) f r
theorem cOA (f:Nat->Value):∀ (ws:List Nat) (b:Array Value) (t:Nat),(vJA b f ws)[t]?=if t ∈ ws/\t < b.size then some (f t) else b[t]?
 | [],b,t=>by simp[vJA]
 | k :: r,b,t=>by
  show (vJA (b.setIfInBounds k (f k)) f r)[t]?=_;rw[cOA f r,Array.size_setIfInBounds];by_cases h1:t ∈ r
  ·by_cases h2:t < b.size
   ·simp[h1,h2]
   ·rw[if_neg (by simp[h2]),if_neg (by simp[h2]),Array.getElem?_eq_none (by rw[Array.size_setIfInBounds];omega),Array.getElem?_eq_none dQ]
  ·by_cases hk:t=k
   ·subst hk;by_cases h2:t < b.size
    ·rw[if_neg (by simp[h1]),if_pos (by simp[h2]),Array.getElem?_setIfInBounds_self_of_lt h2]
    ·rw[if_neg (by simp[h1]),if_neg (by simp[h2]),Array.getElem?_eq_none (by rw[Array.size_setIfInBounds];omega),Array.getElem?_eq_none dQ]
   ·rw[if_neg (by simp[h1]),if_neg (by simp[h1,hk]),Array.getElem?_setIfInBounds_ne (Ne.symm hk)]
theorem tAA.eq {a0 a:Act} {ws:List Nat} (h:tAA a0 ws a):a=⟨vJA a0.tmps (fun t=>a.eval (.tmp t)) ws,a0.defers⟩:=by
 obtain⟨T,df⟩:=a;have hd:df=a0.defers:=h.defers;subst hd;congr 1;refine Array.ext_getElem? fun t=>?_
 rw[cOA];split
 ·rename_i ht;have hs:t < T.size:=by have:=h.size;dsimp only at this;omega
  simp[Act.eval,hs]
 ·rename_i ht;by_cases h2:t < a0.tmps.size
  ·exact h.keep t (fun e=>ht ⟨e,h2⟩)
  ·have:=h.size;dsimp only at this;rw[Array.getElem?_eq_none dQ,Array.getElem?_eq_none dQ]

end Go.Proofs.YtckfdbjjjgfbfaaGreat
