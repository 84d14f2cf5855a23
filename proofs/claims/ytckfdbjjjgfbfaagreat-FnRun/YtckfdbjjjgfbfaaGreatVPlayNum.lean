import Derived.Test.YtckfdbjjjgfbfaaGreatVRegGuard
import Derived.Laws.CopyOwn
set_option linter.unusedVariables false
set_option linter.unusedSimpArgs false
set_option maxRecDepth 100000
set_option maxHeartbeats 4000000
namespace Go.Proofs.YtckfdbjjjgfbfaaGreat
open Go.RowKit
theorem gEB {n:Int} (h:ramI n=false):(n==256)=false/\(n==512)=false/\(n==1024)=false/\(n==2048)=false/\(n==4096)=false:=by
 unfold ramI ramN at h;rw[Bool.and_eq_false_iff] at h;simp only[beq_eq_false_iff_ne];rcases h with h|h
 ·have:=of_decide_eq_false h;omega
 ·have:=of_decide_eq_false h;omega
theorem nPA (n:Nat):ramI (n:Int)=ramN n:=by
 unfold ramI;rw[decide_eq_true (by omega:(0:Int)<=(n:Int))];simp
theorem gLA (n:Int) (w:World) :
  Calls Tryz.prog 71 #[.int .i64 n] w fun e w'=>e=.returned (.bool (ramI n))/\w=w':=by
 cases h:ramI n with
 | false=>
  obtain⟨t1,t2,t3,t4,t5⟩:=gEB h;clear h;go_enter Tryz.func71,Tryz.ntmps71;go_wp2;go_ret;exact⟨rfl,rfl⟩
 | true=>
  unfold ramI at h;rw[Bool.and_eq_true] at h;obtain⟨d,rfl⟩:=Int.eq_ofNat_of_zero_le (of_decide_eq_true h.1);have hr:ramN d=true:=by simpa using h.2
  clear h;rcases nIA hr with t1|⟨t1,t2⟩|⟨t1,t2,t3⟩|⟨t1,t2,t3,t4⟩|⟨t1,t2,t3,t4,t5⟩
  all_goals
   clear hr;go_enter Tryz.func71,Tryz.ntmps71;go_wp2;go_ret;exact⟨rfl,rfl⟩
theorem kEA (a:Option Addr) (n c:Nat) (w:World) :
  Calls Tryz.prog 37 #[ramV (.slice a n c)] w fun e w'=>e=.returned (.bool (ramN n))/\Below w.heap.size w w':=by
 have HS:=fun w=>gLA (n:Int) w
 rw[nPA] at HS;go_enter Tryz.func37,Tryz.ntmps37;go_wp2_with fail;refine (HS _).mono ?_;rintro e z ⟨rfl,rfl⟩;go_wp2;go_ret;exact⟨rfl,(Below.refl _ _).alloc (Nat.le_refl _) _⟩
theorem cRA (n:Int) (w:World) :
  Calls Tryz.prog 72 #[.int .i64 n] w fun e w'=>∃ v,e=.returned (ramV v)/\OwnB w' w.heap.size v (newL n)/\Below w.heap.size w w':=by
 have HS:=fun w=>gLA n w
 cases h:ramI n with
 | false=>
  have hL:newL n=[]:=by unfold newL;rw[h];rfl
  rw[hL];rw[h] at HS;clear h hL;go_enter Tryz.func72,Tryz.ntmps72;go_wp2_with fail;refine (HS _).mono ?_;rintro e z ⟨rfl,rfl⟩;go_wp2;exact bodyPost_ret (v:=ramV (.slice none 0 0)) (by simp[results,Tryz.results72,go_sem]) rfl ⟨_,rfl,vDA _ _,(Below.refl _ _).alloc (Nat.le_refl _) _⟩
 | true=>
  rw[h] at HS;unfold ramI at h;rw[Bool.and_eq_true] at h;obtain⟨d,rfl⟩:=Int.eq_ofNat_of_zero_le (of_decide_eq_true h.1);have hr:ramN d=true:=by simpa using h.2
  have hL:newL d=List.replicate d 0:=by unfold newL ramI;rw[if_pos (by simp[hr])];simp
  have m0:=fun w=>makeB d (by have:=dBA hr;omega) w
  have hb:=dBA hr;rw[hL];clear h hL hr;go_enter Tryz.func72,Tryz.ntmps72;go_wp2_with fail;refine (HS _).mono ?_;rintro e z ⟨rfl,rfl⟩;go_wp2;refine bodyPost_ret (v:=ramV (.slice (some ⟨w.heap.size+1,0,none⟩) d d)) (by simp[results,Tryz.results72,go_sem]) rfl ⟨_,rfl,?_,?_⟩
  ·have:=zLA (w.alloc (Obj.cells #[Value.slice (some ⟨w.heap.size+1,0,none⟩) d d] 30)) (List.replicate d 0) xQg (fun i hi=>mQg);simp only[World.size_alloc,List.length_replicate,List.map_replicate,u8V] at this;exact OwnB.base this dQ
  ·exact ((Below.refl _ _).alloc (Nat.le_refl _) _).alloc yQ _
theorem kMA (a:Option Addr) (n c addr:Nat) (ha:addr < 65536) (K:0 < n/\n<=4096) (w:World) :
  Calls Tryz.prog 46 #[ramV (.slice a n c),.int .u16 addr] w fun e w'=>e=.returned (.int .i64 ((addr % n:Nat):Int))/\w'=w.alloc (.cells #[.slice a n c] 30):=by
 obtain⟨k,hk⟩:∃ k,addr % n=k:=⟨_,rfl⟩;have b7:k < n:=oQe;have n0:(addr:Int).tmod (n:Int)=(k:Int):=by rw[xGA _ _ dQ,hk]
 have m1:((n:Int)==0)=false:=beq_eq_false_iff_ne.2 dQ;have m2:¬ (n:Int)=0:=dQ;have m3:¬ n=0:=dQ;have m9:IntKind.i64.wrap (addr:Int)=(addr:Int):=IntWalk.i64_in _ dQ;have n1:IntKind.i64.wrap (k:Int)=(k:Int):=IntWalk.i64_in _ dQ;rw[hk];clear hk;go_enter Tryz.func46,Tryz.ntmps46;go_wp2;go_ret;exact⟨rfl,rfl⟩
theorem bGA (a:Option Addr) (c addr:Nat) (L:List Nat) (ha:addr < 65536) (w:World) (hr:RowB w a L) :
  Calls Tryz.prog 16 #[ramV (.slice a L.length c),.int .u16 addr] w fun e w'=>e=.returned (.int .u8 (peekL L addr))/\Below w.heap.size w w':=by
 have O:=fun w=>kEA a L.length c w
 cases h:ramN L.length with
 | false=>
  have e:peekL L addr=0:=by unfold peekL;rw[h];rfl
  rw[e];rw[h] at O;clear h e;go_enter Tryz.func16,Tryz.ntmps16;go_wp2_with fail;refine (O _).mono ?_;rintro e z ⟨rfl,E⟩;have W:=bstep ((Below.refl _ _).alloc (Nat.le_refl _) _) E;go_wp2;go_ret;exact⟨rfl,W⟩
 | true=>
  have hb:=dBA h;obtain⟨g,o,rfl,hg,hc⟩:=hr.2 dQ;have HP:=fun w=>kMA (some ⟨g,o,none⟩) L.length c addr ha dQ w
  obtain⟨k,hk⟩:∃ k,addr % L.length=k:=⟨_,rfl⟩;have b7:k < L.length:=oQe;have e:peekL L addr=L.getD k 0:=by unfold peekL;rw[if_pos h,hk]
  rw[e];have d7:=hc k b7;obtain⟨x,hx⟩:∃ x,L.getD k 0=x:=⟨_,rfl⟩;rw[hx] at d7 ⊢;have m5:x < 256:=by rw[<-hx];exact hr.1 k b7
  rw[h] at O;rw[hk] at HP;have a0:=(((Below.refl _ _).alloc (Nat.le_refl _) (.cells #[.slice (some ⟨g,o,none⟩) L.length c] 30)).cell (p:=⟨g,o+k,none⟩) hg).trans d7;unfold u8V at a0;have ik:(0:Int)<=(k:Int)/\(k:Int) < (L.length:Int):=dQ;clear h e hc hx hr hk d7;go_enter Tryz.func16,Tryz.ntmps16;go_wp2_with fail;refine (O _).mono ?_;rintro e z ⟨rfl,E⟩;have hs1:w.heap.size < z.heap.size:=Nat.lt_of_lt_of_le yQ E.size;have l9:g < z.heap.size:=dQ;have d6:z.cell? ⟨w.heap.size,0,none⟩=some (.slice (some ⟨g,o,none⟩) L.length c):=(E.cell (p:=⟨w.heap.size,0,none⟩) yQ).trans yQ;have B:=(E.cell (p:=⟨g,o+k,none⟩) qQ).trans a0;have W:=bstep ((Below.refl _ _).alloc (Nat.le_refl _) _) E;have b3:=W.alloc dQ (.cells #[.slice (some ⟨g,o,none⟩) L.length c] 30);clear E a0;have S0:z.drew.cell? ⟨w.heap.size,0,none⟩=some (.slice (some ⟨g,o,none⟩) L.length c)/\z.drew.cell? ⟨g,o+k,none⟩=some (.int .u8 (x:Int)):=⟨d6,B⟩;have S1:(z.alloc (.cells #[.slice (some ⟨g,o,none⟩) L.length c] 30)).drew.cell? ⟨w.heap.size,0,none⟩=some (.slice (some ⟨g,o,none⟩) L.length c)/\(z.alloc (.cells #[.slice (some ⟨g,o,none⟩) L.length c] 30)).drew.cell? ⟨g,o+k,none⟩=some (.int .u8 (x:Int)):=
   ⟨(World.cell?_alloc_past _ _ _ (by show w.heap.size < z.heap.size;omega)).trans d6,(World.cell?_alloc_past _ _ _ (by show g < z.heap.size;omega)).trans B⟩
  go_wp2_with fail;go_region_held3 (fun w'=>w'.cell? ⟨w.heap.size,0,none⟩=some (.slice (some ⟨g,o,none⟩) L.length c)/\w'.cell? ⟨g,o+k,none⟩=some (.int .u8 (x:Int)))
   (((try dsimp only);(first|(with_reducible exact S0)|(with_reducible exact S1))))
   (first|(go_at_call 46;refine (HP _).mono ?_;rintro e w2 ⟨rfl,rfl⟩))
  go_wp2;go_ret;exact⟨rfl,b3.drew⟩
theorem vXA:uEA:=fun a n c w _=>kEA a n c w
theorem sGA (n addr:Nat) (hd:n∣65536):∀ (R:List Nat) (k p j:Nat) (M:List Nat),M.length=n->p+k<=n->k<=R.length->(0 < k->p=(addr+j) % 65536 % n) ->
  cCA n addr R j M=cCA n addr (R.drop k) (j+k) (splice M p (R.take k))
 | R,0,p,j,M,_,_,_,_=>by simp[splice]
 | [],k+1,p,j,M,_,_,hk,_=>by simp at hk
 | x :: r,k+1,p,j,M,H,hp,hk,a3=>by
  have e:=a3 dQ;rw[cCA,<-e];have e0:0 < k->p+1=(addr+(j+1)) % 65536 % n:=fun h0=>by
   rw[Nat.mod_mod_of_dvd _ hd] at e ⊢;have h1:(addr+(j+1)) % n=((addr+j) % n+1) % n:=by rw[show addr+(j+1)=(addr+j)+1 by omega,Nat.add_mod];simp
   rw[h1,<-e,Nat.mod_eq_of_lt dQ]
  rw[sGA n addr hd r k (p+1) (j+1) (M.set p x) (by rw[List.length_set];exact H) dQ lQi e0];have e2:splice (M.set p x) (p+1) (r.take k)=splice M p ((x :: r).take (k+1)):=by
   have hl:(r.take k).length=k:=by rw[List.length_take];simp at hk;omega
   simp only[splice,List.take_succ_cons,List.length_cons,hl];rw[List.take_set,List.drop_set_of_lt dQ,show p+1+k=p+(k+1) by omega];have:(M.take (p+1)).set p x=M.take p++[x]:=by
    rw[List.take_succ_eq_append_getElem dQ,List.set_append_right _ _ (by rw[List.length_take];omega)];simp[List.length_take,Nat.min_eq_left (by omega:p<=M.length)]
   rw[this];simp
  rw[e2];simp only[List.drop_succ_cons];rw[show j+1+k=j+(k+1) by omega]
theorem eOA (n:Nat) (hd:n∣65536) (K:0 < n) (L M:List Nat) (H:M.length=n) (hL:L.length=n):cCA n 0 L 0 M=L:=by
 rw[sGA n 0 hd L n 0 0 M H dQ dQ (fun _=>yQ)];rw[List.drop_of_length_le dQ,cCA,List.take_of_length_le dQ];simp[splice,hL,<-H]
theorem oPA {n:Nat} (h:ramN n=true):n∣65536:=by
 rcases mIA h with rfl|rfl|rfl|rfl|rfl<;>decide
theorem yPA {M R:List Nat} {p:Nat} (H:∀ i,i < M.length->M.getD i 0 < 256) (hR:∀ i,i < R.length->R.getD i 0 < 256):∀ i,i < (splice M p R).length->(splice M p R).getD i 0 < 256:=by
 have key:∀ L:List Nat,(∀ i,i < L.length->L.getD i 0 < 256)↔∀ x ∈ L,x < 256:=fun L=>by
  constructor
  ·intro h x hx;obtain⟨i,hi,rfl⟩:=List.mem_iff_getElem.1 hx;have:=h i hi
   rwa [List.getD,List.getElem?_eq_getElem hi] at this
  ·intro h i hi;rw[List.getD,List.getElem?_eq_getElem hi];exact h _ (List.getElem_mem _)
 rw[key] at H hR ⊢;intro x hx;simp only[splice,List.mem_append] at hx;rcases hx with hx|hx|hx
 ·exact H x (List.mem_of_mem_take hx)
 ·exact hR x hx
 ·exact H x (List.mem_of_mem_drop hx)
theorem qWA {α β:Type} (f:α->β) (L:List α) (p:Nat) (C:List α):(splice L p C).map f=splice (L.map f) p (C.map f):=by
 simp[splice]
theorem wSA {α:Type} (L:List α) (p n:Nat) (C:List α) (h:p+C.length<=n) (K:n<=L.length):(splice L p C).take n=splice (L.take n) p C:=by
 simp only[splice];rw[List.take_append,List.take_append,List.length_take,Nat.min_eq_left (by omega:p<=L.length),List.take_of_length_le (by rw[List.length_take];omega:(L.take p).length<=n),List.take_of_length_le (by omega:C.length<=n - p),List.take_take,Nat.min_eq_left (by omega:p<=n),List.drop_take,Nat.sub_sub]
theorem hQA {w:World} {j7:Array Oper} {c1:List Oper} {o:Oper} {a:Act} {Q:Exit->Act->World->Prop} (l4:o.guard=none) (d s:Operand)
  (ho:o.op=.call { callee:=.builtin .copy,args:=#[d,s],argTypes:=#[22,22] })
  (base g p n c c0 k c8:Nat) (b:Option Addr) (M R:List Nat) (hd:a.eval d=.slice (some ⟨g,p,none⟩) (n - p) c0) (hs:a.eval s=.slice b R.length c8)
  (hk:k=Nat.min R.length (n - p)) (j2:0 < k) (H:M.length=n) (hp:p<=n) (hO:OwnB w base (.slice (some ⟨g,0,none⟩) n c) M) (hR:RowB w b R)
  (h:∀ w',Hid (OwnB w' base (.slice (some ⟨g,0,none⟩) n c) (splice M p (R.take k)))->w.grownBy w' (some g)->wpList Tryz.prog j7 Q c1 (a.put o.dst (goInt k)) w') :
  wpList Tryz.prog j7 Q (o :: c1) a w:=by
 have b7:k<=R.length:=by rw[hk];exact Nat.min_le_left _ _
 have l5:k<=n - p:=by rw[hk];exact Nat.min_le_right _ _
 have U:(R.take k).length=k:=by rw[List.length_take];omega
 obtain⟨gx,ox,rfl,b6,B⟩:=hR.2 dQ;rcases hO.2.2 with ⟨_,h0⟩|⟨g',cap,J,hv,hb,hg,h1,h2,h3,h4⟩
 ·omega
 simp only[Value.slice.injEq,Option.some.injEq,Addr.mk.injEq,and_true] at hv;obtain⟨rfl,_,rfl⟩:=hv;refine wpList_copy_own l4 d s 22 22 ho 5 Tryz.underlying22 gQ g p (n - p) c0 ⟨gx,ox,none⟩ R.length c8 hd hs J 5 hg ((R.take k).map u8V) (by rw[List.length_map,U,hk]) ?_ ?_ ?_ ?_
 ·intro j v hj;have:=bFA hR j v;apply this;rw[List.map_take] at hj;rw[List.getElem?_take] at hj;split at hj
  ·exact hj
  ·cases hj
 ·rw[List.length_map,U];omega
 ·intro v hv;rw[List.map_take] at hv;exact iFA R v (List.mem_of_mem_take hv)
 ·have j4:((R.take k).map u8V).length=k:=by rw[List.length_map,U]
  rw[j4];have d9:(splice M p (R.take k)).length=n:=by rw[length_splice _ _ _ (by rw[U];omega)];exact H
  refine h _ (j_ ⟨yPA hO.1 (fun i hi=>?_),?_⟩) ?_
  ·rw[U] at hi;have:=hR.1 i dQ;rw[List.getD,List.getElem?_take,if_pos hi];exact this
  ·refine⟨yQ,.inr ⟨g,c,_,by rw[d9],hb,setRow_heap w g J _ 5 (0,0) hg,by rw[d9];omega,h2,?_,?_⟩⟩
   ·simp only[List.size_toArray,List.length_append,List.length_take,List.length_drop,Array.length_toList,List.length_map,Nat.mul_one];omega
   ·rw[d9,Nat.mul_one];have l0:J.toList.take n=M.map u8V:=by rw[<-h4,H,Nat.mul_one]
    rw[qWA,<-l0];have e:J.toList.take p++((R.take k).map u8V++J.toList.drop (p+k))=splice J.toList p ((R.take k).map u8V):=by rw[splice,j4]
    rw[e];exact wSA _ _ _ _ (by rw[List.length_map,U];omega) (by rw[Array.length_toList];omega)
  ·exact⟨rfl,rfl,rfl,by simp[World.setRow],fun k _ hne=>setRow_other w g k _ (by intro e;exact hne (by rw[e]))⟩
def lenOf:Value->Nat
 | .slice _ n _=>n
 | _=>0
theorem RowB.grownBut {w w':World} {g:Nat} {b:Option Addr} {R:List Nat} (h:RowB w b R) (hg:w.grownBy w' (some g)) (hne:0 < R.length->∀ a,b=some a->a.block≠g):RowB w' b R:=by
 refine⟨h.1,fun h0=>?_⟩;obtain⟨gx,ox,rfl,b8,hc⟩:=h.2 h0;have hb:=hg.block gx b8 (by have:=hne h0 _ rfl;simp at this;simpa using this);exact⟨gx,ox,rfl,Nat.lt_of_lt_of_le b8 hg.size,fun i hi=>(World.cell?_of_block (a:=⟨gx,ox+i,none⟩) hb).trans (hc i hi)⟩
theorem RowB.cut {w:World} {g o:Nat} {R:List Nat} (h:RowB w (some ⟨g,o,none⟩) R) (k:Nat):RowB w (some ⟨g,o+k,none⟩) (R.drop k):=by
 have hd:∀ i,i < (R.drop k).length->(R.drop k).getD i 0=R.getD (k+i) 0:=fun i _=>by simp[List.getD]
 refine⟨fun i hi=>?_,fun h0=>?_⟩
 ·rw[hd i hi];rw[List.length_drop] at hi;exact h.1 _ dQ
 ·rw[List.length_drop] at h0;obtain⟨g',o',e,b8,hc⟩:=h.2 dQ;simp only[Option.some.injEq,Addr.mk.injEq,and_true] at e;obtain⟨rfl,rfl⟩:=e;refine⟨g,o+k,rfl,b8,fun i hi=>?_⟩;rw[hd i hi];rw[List.length_drop] at hi;rw[Nat.add_assoc];exact hc (k+i) dQ
theorem RowB.none (w:World) (b:Option Addr):RowB w b []:=⟨fun i hi=>by simp at hi,fun h=>by simp at h⟩
theorem cMA (g n c base addr:Nat) (M:List Nat) (b:Option Addr) (cx:Nat) (X:List Nat) (w:World) (ha:addr < 65536) (K:ramN n=true) (H:M.length=n) (hO:OwnB w base (.slice (some ⟨g,0,none⟩) n c) M) (hX:RowB w b X) (hne:0 < X.length->∀ a,b=some a->a.block≠g) (b0:X.length<=1048576) (B:X.length<=cx) :
  Calls Tryz.prog 73 #[ramV (.slice (some ⟨g,0,none⟩) n c),.int .u16 addr,.slice b X.length cx] w fun e w'=>e=.returned (.tuple #[])/\OwnB w' base (.slice (some ⟨g,0,none⟩) n c) (cCA n addr X 0 M)/\w.grownBy w' (some g):=by
 have m4:=dBA K;have j0:=oPA K;have j5:n<=c/\c<=maxLen/\g < w.heap.size:=by
  rcases hO.2.2 with ⟨_,h0⟩|⟨g',cap,J,hv,_,hg,h1,h2,_⟩
  ·omega
  ·simp only[Value.slice.injEq,Option.some.injEq,Addr.mk.injEq,and_true] at hv;obtain⟨rfl,_,rfl⟩:=hv;exact⟨dQ,h2,(Array.getElem?_eq_some_iff.1 hg).1⟩
 obtain⟨j5,l2,l8⟩:=j5;unfold maxLen at l2;have HP:=fun w=>kMA (some ⟨g,0,none⟩) n c addr ha dQ w
 obtain⟨p0,b9⟩:∃ p,addr % n=p:=⟨_,rfl⟩;have j6:p0 < n:=by rw[<-b9];exact Nat.mod_lt _ dQ
 rw[b9] at HP;have k7:=j_ b9;have HD:=j_ j0;clear K j0 b9;have i6:=BoxN.new w 30 #[.slice (some ⟨g,0,none⟩) n c];have i7:=i6.below ((Below.refl _ _).alloc (Nat.le_refl _) (.cells #[.slice (some ⟨g,0,none⟩) n c] 30));have B2:Below w.heap.size w ((w.alloc (.cells #[.slice (some ⟨g,0,none⟩) n c] 30)).alloc (.cells #[.slice (some ⟨g,0,none⟩) n c] 30)):=((Below.refl _ _).alloc (Nat.le_refl _) _).alloc yQ _;have H0:=j_ (And.intro (hO.below B2) (And.intro (hX.below B2) (And.intro i7 B2)));clear i6 i7 B2 hO hX;go_enter Tryz.func73,Tryz.ntmps73;go_wp2_with fail;refine (HP _).mono ?_;rintro e z ⟨rfl,hw1⟩;have H1:Hid (OwnB z base (.slice (some ⟨g,0,none⟩) n c) M/\RowB z b X/\BoxN z w.heap.size 30 #[.slice (some ⟨g,0,none⟩) n c]/\Below w.heap.size w z):=by rw[hw1];exact H0
 clear hw1 H0;go_wp2;go_loopw [2,6] (fun l q wr=>∃ (j p:Nat) (R M':List Nat) (b':Option Addr) (cb:Nat),l=.slice b' R.length cb/\q=.int .i64 p/\p < n/\R.length<=cb/\R.length<=1048576/\Hid (M'.length=n/\(0 < R.length->p=(addr+j) % 65536 % n)/\OwnB wr base (.slice (some ⟨g,0,none⟩) n c) M'/\RowB wr b' R/\(0 < R.length->∀ a,b'=some a->a.block≠g)/\BoxN wr w.heap.size 30 #[.slice (some ⟨g,0,none⟩) n c]/\w.grownBy wr (some g)/\cCA n addr R j M'=cCA n addr X 0 M)) (fun l _ _=>lenOf l)
 case atStart=>exact⟨0,p0,X,M,b,cx,rfl,rfl,j6,B,b0,j_ ⟨H,fun _=>by rw[Nat.add_zero,Nat.mod_eq_of_lt ha,k7.out],H1.out.1,H1.out.2.1,hne,H1.out.2.2.1,jUA H1.out.2.2.2,rfl⟩⟩
 case round=>
  obtain⟨j,p,R,M',b',cb,rfl,rfl,hp,d6,hRl,HI⟩:=hrel;obtain⟨d4,a3,a8,a9,a2,a7,d3,hF⟩:=HI.out;by_cases hz:R.length=0
  ·obtain rfl:R=[]:=List.eq_nil_of_length_eq_zero hz;have a6:=j_ a8;have HF:=j_ hF;clear HI d4 a3 a8 a9 a2 a7 hF;go_wp2;first|go_end0|(go_ret)|trace_state
   refine⟨rfl,?_,d3⟩;rw[<-HF.out,cCA];exact a6.out
  ·obtain⟨k,hk⟩:∃ k,Nat.min R.length (n - p)=k:=⟨_,rfl⟩;have l6:k<=R.length:=by rw[<-hk];exact Nat.min_le_left _ _
   have l5:k<=n - p:=by rw[<-hk];exact Nat.min_le_right _ _
   have j2:0 < k:=by rw[<-hk];exact Nat.lt_min.2 ⟨dQ,dQ⟩
   have j3:k=R.length\/k=n - p:=by rw[<-hk];unfold Nat.min;rcases Nat.le_total R.length (n - p) with q|q<;>simp[Nat.min_def]<;>omega
   obtain⟨gx,ox,rfl,b6,_⟩:=a9.2 dQ;have l1:=a7.cell 0 _ rfl;have HK:=j_ hk;have a6:=j_ a8;have c9:=j_ a9;have HB:=j_ a7;have HG:=j_ d3;have e8:=j_ a3;have HF:=j_ hF;have a5:=j_ d4;have k2:=j_ j3;clear HI hk d4 a3 a8 a9 a7 d3 hF j3;have i1:(0:Int)<=(p:Int)/\(p:Int)<=(n:Int)/\(n:Int)<=(c:Int):=dQ;have i2:(0:Int)<=(k:Int)/\(k:Int)<=(R.length:Int)/\(R.length:Int)<=(cb:Int):=dQ;have i3:(0:Int) < (R.length:Int):=dQ;go_wp2_with (with_reducible refine hQA rfl (.tmp 17) (.tmp 18) rfl base g p n c (c - p) k cb (some ⟨gx,ox,none⟩) M' R rfl rfl HK.out.symm j2 a5.out dQ a6.out c9.out ?_);intro w2 k3 a1;have j9:=j_ (show BoxN w2 w.heap.size 30 #[.slice (some ⟨g,0,none⟩) n c] from (a1.block w.heap.size HB.out.lt (by intro e;simp only[Option.some.injEq] at e;omega)).trans HB.out);have k8:=j_ (c9.out.grownBut a1 a2);have k1:=j_ (HG.out.trans a1);clear l1 HB HG c9 a6 a1;go_wp2;have j1:gx≠g:=a2 dQ _ rfl;go_roundw
   case rel=>
    refine⟨j+k,0,R.drop k,splice M' p (R.take k),_,cb - k,by rw[List.length_drop],rfl,dQ,by rw[List.length_drop];omega,by rw[List.length_drop];omega,j_ ⟨?_,?_,k3.out,?_,?_,j9.out,k1.out,?_⟩⟩
    ·rw[length_splice _ _ _ (by rw[List.length_take,a5.out];omega)];exact a5.out
    ·intro h0;rw[List.length_drop] at h0;have e1:k=n - p:=by rcases k2.out with q|q;omega;exact q
     have e2:=e8.out dQ;rw[Nat.mod_mod_of_dvd _ HD.out] at e2 ⊢;have e3:=Nat.div_add_mod (addr+j) n;rw[show addr+(j+k)=n*((addr+j) / n+1) by rw[Nat.mul_add];omega,Nat.mul_mod_right]
    ·split
     ·rw[List.drop_of_length_le dQ];exact RowB.none _ _
     ·exact k8.out.cut k
    ·intro _ a ea;split at ea
     ·simp only[Option.some.injEq] at ea;rw[<-ea];exact j1
     ·simp only[Option.some.injEq] at ea;rw[<-ea];exact j1
    ·rw[<-HF.out,sGA n addr HD.out R k p j M' a5.out dQ l6 (fun _=>e8.out dQ)]
   case measure=>simp[lenOf];omega
theorem wBB (g n c base:Nat) (M:List Nat) (b:Option Addr) (cx:Nat) (X:List Nat) (w:World) (K:ramN n=true) (H:M.length=n) (hO:OwnB w base (.slice (some ⟨g,0,none⟩) n c) M) (hX:RowB w b X) (hne:0 < X.length->∀ a,b=some a->a.block≠g) (b0:X.length=n) (B:n<=cx) :
  Calls Tryz.prog 73 #[ramV (.slice (some ⟨g,0,none⟩) n c),.int .u16 0,.slice b n cx] w fun e w'=>e=.returned (.tuple #[])/\OwnB w' base (.slice (some ⟨g,0,none⟩) n c) X/\w.grownBy w' (some g):=by
 have hp:=dBA K;have h:=cMA g n c base 0 M b cx X w dQ K H hO hX hne dQ dQ;rw[eOA n (oPA K) dQ X M H b0,b0] at h;exact h
theorem sQA (a:Option Addr) (c addr:Nat) (L:List Nat) (T:Option Addr) (nx cx:Nat) (w:World) (h:ramN L.length=false\/1024 < nx) (hx:nx<=maxLen) :
  Calls Tryz.prog 38 #[ramV (.slice a L.length c),.int .u16 addr,.slice T nx cx] w fun e w'=>e=.returned (ramV (.slice none 0 0))/\Below w.heap.size w w':=by
 have O:=fun w=>kEA a L.length c w
 have m7:(nx:Int)<=9223372036854775807:=by unfold maxLen at hx;omega
 cases h1:ramN L.length with
 | false=>
  rw[h1] at O;clear h h1;go_enter Tryz.func38,Tryz.ntmps38;go_wp2_with fail;refine (O _).mono ?_;rintro e z ⟨rfl,E⟩;have bx:=boxAt (Boxed.new (w.alloc (.cells #[.slice a L.length c] 30)) 30 (.slice none 0 0)) E;rw[World.size_alloc] at bx;have W:=bstep (((Below.refl _ _).alloc (Nat.le_refl _) _).alloc yQ _) E;have B:=bx.cell;have l3:=bx.frozen;have hcx2:=(bx.set (.slice none 0 0)).cell;go_wp2;exact bodyPost_ret (v:=ramV (.slice none 0 0)) (by simp[results,Tryz.results38,go_sem,hcx2]) rfl ⟨rfl,W.setCell yQ _⟩
 | true=>
  have l7:(1024:Int) < (nx:Int):=by rcases h with h|h;rw[h1] at h;cases h;omega
  rw[h1] at O;clear h h1;go_enter Tryz.func38,Tryz.ntmps38;go_wp2_with fail;refine (O _).mono ?_;rintro e z ⟨rfl,E⟩;have bx:=boxAt (Boxed.new (w.alloc (.cells #[.slice a L.length c] 30)) 30 (.slice none 0 0)) E;rw[World.size_alloc] at bx;have W:=bstep (((Below.refl _ _).alloc (Nat.le_refl _) _).alloc yQ _) E;have B:=bx.cell;have l3:=bx.frozen;have hcx2:=(bx.set (.slice none 0 0)).cell;go_wp2;exact bodyPost_ret (v:=ramV (.slice none 0 0)) (by simp[results,Tryz.results38,go_sem,hcx2]) rfl ⟨rfl,W.setCell yQ _⟩
theorem hOA (a:Option Addr) (c addr:Nat) (L:List Nat) (T:Option Addr) (cx:Nat) (X:List Nat) (ha:addr < 65536) (w:World) (hr:RowB w a L) (hx:RowB w T X) (h:ramN L.length=true) (hX:X.length<=1024) (hc:L.length<=c) (a4:X.length<=cx) :
  Calls Tryz.prog 38 #[ramV (.slice a L.length c),.int .u16 addr,.slice T X.length cx] w fun e w'=>∃ v,e=.returned (ramV v)/\OwnB w' w.heap.size v (cCA L.length addr X 0 L)/\Below w.heap.size w w':=by
 have O:=fun w=>kEA a L.length c w
 rw[h] at O;have K:=dBA h;have HN:=fun w=>cRA (L.length:Int) w
 have i9:newL (L.length:Int)=List.replicate L.length 0:=by unfold newL;rw[nPA,if_pos h];simp
 rw[i9] at HN;have m6:¬ (1024:Int) < (X.length:Int):=dQ;obtain⟨g,o,rfl,hg,_⟩:=hr.2 dQ;have b6:0 < X.length->∀ b,T=some b->b.block < w.heap.size:=fun h0 b eb=>by
  obtain⟨gx,ox,e,hl,_⟩:=hx.2 h0;rw[e] at eb;simp only[Option.some.injEq] at eb;rw[<-eb];exact hl
 obtain⟨n,d8⟩:∃ n,L.length=n:=⟨_,rfl⟩;rw[d8] at O HN h K hc ⊢;have HL:=j_ d8;have HR:=j_ hr;have HX:=j_ hx;have i0:=j_ h;have e4:=j_ b6;clear hr hx i9 h d8 b6;go_enter Tryz.func38,Tryz.ntmps38;go_wp2_with fail;refine (O _).mono ?_;rintro e z ⟨rfl,d1⟩;have p3:=((BoxN.new w 30 #[.slice (some ⟨g,o,none⟩) n c]).below ((Below.refl _ _).alloc (Nat.le_refl _) (.cells #[.slice none 0 0] 30))).below d1;have p6:=(BoxN.new (w.alloc (.cells #[.slice (some ⟨g,o,none⟩) n c] 30)) 30 #[.slice none 0 0]).below d1;rw[World.size_alloc] at p6;have E:=bstep (((Below.refl _ w).alloc (Nat.le_refl _) _).alloc yQ _) d1;have hs1:=p6.lt;clear d1;have c3:=p3.cell 0 _ rfl;go_wp2_with fail;refine (HN _).mono ?_;rintro e w2 ⟨v,rfl,o2,d2⟩;obtain⟨g2,c2,rfl,_⟩:=o2.cells (by rw[List.length_replicate];omega);rw[List.length_replicate] at o2 ⊢;have a1:=(World.ownsRow.lt o2.2) g2 rfl;have W:=bstep E d2;have q3:=(p3.below d2).below ((Below.refl _ _).alloc (Nat.le_refl _) (.cells #[.slice (some ⟨g2,0,none⟩) n c2] 30));have q6:=(p6.below d2).below ((Below.refl _ _).alloc (Nat.le_refl _) (.cells #[.slice (some ⟨g2,0,none⟩) n c2] 30));have q7:=BoxN.new w2 30 #[.slice (some ⟨g2,0,none⟩) n c2];have b3:=W.alloc (Nat.le_trans W.size (Nat.le_refl _)) (.cells #[.slice (some ⟨g2,0,none⟩) n c2] 30);have o3:=o2.below ((Below.refl _ _).alloc (Nat.le_refl _) (.cells #[.slice (some ⟨g2,0,none⟩) n c2] 30));have e9:=j_ (HR.out.below b3);have i4:=j_ (HX.out.below b3);have e6:=j_ o3;clear d2 p3 p6 E W o2 o3 c3;have c3:=q3.cell 0 _ rfl;have c7:=q7.cell 0 _ rfl;go_wp2_with fail;refine (wBB g2 n c2 z.heap.size _ (some ⟨g,o,none⟩) c L _ i0.out (List.length_replicate ..) e6.out e9.out (fun _ b eb=>by simp only[Option.some.injEq] at eb;rw[<-eb];show g≠g2;omega) HL.out hc).mono ?_;rintro e w4 ⟨rfl,o4,k4⟩;have s4:=Span.of_grown k4 (Nat.le_refl g2) (Nat.lt_succ_self g2);have r6:=q6.span s4 dQ;have r7:=q7.span s4 dQ;have b4:=b3.trans (s4.below dQ (by have:=b3.size;omega));have i5:=j_ (i4.out.grownBut k4 (fun h0 b eb=>by have:=e4.out h0 b eb;omega));have e7:=j_ o4;clear q3 q6 q7 b3 c3 c7 k4 s4 o4 i4 e6 e9;have c7:=r7.cell 0 _ rfl;go_wp2_with fail;refine (cMA g2 n c2 z.heap.size addr L T cx X _ ha i0.out HL.out e7.out i5.out (fun h0 b eb=>by have:=e4.out h0 b eb;omega) dQ a4).mono ?_;rintro e w5 ⟨rfl,o5,k5⟩;have s5:=Span.of_grown k5 (Nat.le_refl g2) (Nat.lt_succ_self g2);have t6:=r6.span s5 dQ;have t7:=r7.span s5 dQ;have b5:=b4.trans (s5.below dQ (by have:=b4.size;omega));have k6:=j_ o5;clear r6 r7 b4 c7 k5 s5 o5 i5 e7;have c7:=t7.cell 0 _ rfl;have c6:=t6.cell 0 _ rfl;have f6:=t6.frozen 0;have k9:=(t6.set 0 (.slice (some ⟨g2,0,none⟩) n c2)).cell 0 (.slice (some ⟨g2,0,none⟩) n c2) rfl;go_wp2;exact bodyPost_ret (v:=ramV (.slice (some ⟨g2,0,none⟩) n c2)) (by simp[results,Tryz.results38,go_sem,k9]) rfl ⟨_,rfl,gFA (OwnB.base k6.out dQ) (tGA _ _ _) (fun q hq=>by simp[Value.ownBlock] at hq;omega),b5.setCell yQ _⟩
theorem eJA (a:Option Addr) (c addr:Nat) (L:List Nat) (T:Option Addr) (cx:Nat) (X:List Nat) (ha:addr < 65536) (w:World) (hr:RowB w a L) (hx:RowB w T X) (hX:X.length<=maxLen) (hc:L.length<=c) (a4:X.length<=cx) :
  Calls Tryz.prog 38 #[ramV (.slice a L.length c),.int .u16 addr,.slice T X.length cx] w fun e w'=>∃ v,e=.returned (ramV v)/\OwnB w' w.heap.size v (fillL L addr X)/\Below w.heap.size w w':=by
 by_cases h:ramN L.length=true/\X.length<=1024
 ·have e:fillL L addr X=cCA L.length addr X 0 L:=if_pos h;rw[e];exact hOA a c addr L T cx X ha w hr hx h.1 h.2 hc a4
 ·have e:fillL L addr X=[]:=if_neg h;rw[e];refine (sQA a c addr L T X.length cx w (by
   cases K:ramN L.length with
   | false=>exact .inl rfl
   | true=>exact .inr (by rw[K] at h;simp at h;exact h)) hX).mono ?_
  rintro e w' ⟨rfl,hb⟩;exact⟨_,rfl,vDA _ _,hb⟩
theorem vAB:kKA:=fun a c addr L T cx X w ha _ hc hX a4 hr hx=>eJA a c addr L T cx X ha w hr hx nQe hc a4
structure St where
 c:CpuN
 b:BusN
def rAA (base a:Nat):Nat:=base / 256*256+a % 256
def St.rdAt (s:St) (a:Nat):Nat×St:=(s.b.get a,⟨s.c,s.b.rd a⟩)
def St.wrAt (s:St) (a d:Nat):St:=⟨s.c,s.b.put a d⟩
def St.fetch (s:St):Nat×St:=(s.b.get s.c.PC,⟨{ s.c with PC:=(s.c.PC+1) % 65536 },s.b.rd s.c.PC⟩)
def St.idle (s:St):St:=⟨s.c,s.b.rd s.c.PC⟩
def St.idleStk (s:St):St:=⟨s.c,s.b.rd (stk s.c.S)⟩
def St.push (s:St) (d:Nat):St:=⟨{ s.c with S:=(s.c.S+255) % 256 },s.b.put (stk s.c.S) d⟩
def St.pull (s:St):Nat×St:=(s.b.get (stk (s.c.S+1)),⟨{ s.c with S:=(s.c.S+1) % 256 },s.b.rd (stk (s.c.S+1))⟩)
def St.fetchW (s:St):Nat×St:=(word s.fetch.1 s.fetch.2.fetch.1,s.fetch.2.fetch.2)
def St.readW (s:St) (a:Nat):Nat×St:=
 (word (s.b.get a) ((s.b.rd a).get (rAA a ((a+1) % 65536))),⟨s.c,(s.b.rd a).rd (rAA a ((a+1) % 65536))⟩)
def St.pushPC (s:St):St:=(s.push (s.c.PC / 256)).push (s.c.PC % 256)
def St.pullPC (s:St):St:=⟨{ s.pull.2.pull.2.c with PC:=word s.pull.1 s.pull.2.pull.1 },s.pull.2.pull.2.b⟩
def St.zero (s:St) (i:Nat):Nat×St:=((s.fetch.1+i) % 256,⟨s.fetch.2.c,s.fetch.2.b.rd s.fetch.1⟩)
def St.indexed (s:St) (base i:Nat) (k:Int):Nat×St:=
 ((base+i) % 65536,if rAA base ((base+i) % 65536)≠(base+i) % 65536\/k≠2 then ⟨s.c,s.b.rd (rAA base ((base+i) % 65536))⟩ else s)
def St.place (s:St) (m k:Int):Nat×St:=
 if m=2 then (s.c.PC,⟨{ s.c with PC:=(s.c.PC+1) % 65536 },s.b⟩)
 else if m=3 then s.fetch
 else if m=4 then s.zero s.c.X
 else if m=5 then s.zero s.c.Y
 else if m=6 then s.fetchW
 else if m=7 then s.fetchW.2.indexed s.fetchW.1 s.c.X k
 else if m=8 then s.fetchW.2.indexed s.fetchW.1 s.c.Y k
 else if m=10 then (s.zero s.c.X).2.readW (s.zero s.c.X).1
 else (s.fetch.2.readW s.fetch.1).2.indexed (s.fetch.2.readW s.fetch.1).1 s.c.Y k
def CpuN.pk (c:CpuN) (d0:Bool):Nat:=(pkV c.N c.V d0 c.D c.I c.Z c.C).toNat
def St.inter (s:St) (j8:Nat) (d0:Bool):St:=
 let t:=s.pushPC.push (s.pushPC.c.pk d0)
 ⟨{ t.c with I:=true,PC:=(t.readW j8).1 },(t.readW j8).2.b⟩
def CpuN.unpack (c:CpuN) (d:Nat):CpuN:={ c with N:=hasB d 128,V:=hasB d 64,D:=hasB d 8,I:=hasB d 4,Z:=hasB d 2,C:=hasB d 1 }

end Go.Proofs.YtckfdbjjjgfbfaaGreat
