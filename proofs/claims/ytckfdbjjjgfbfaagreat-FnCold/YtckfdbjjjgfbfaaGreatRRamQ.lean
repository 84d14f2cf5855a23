import Derived.Test.YtckfdbjjjgfbfaaGreatRPhr
import Derived.Test.YtckfdbjjjgfbfaaGreatRAluA
import Derived.Test.YtckfdbjjjgfbfaaGreatRCycRow
import Derived.Laws.CopyOwn
set_option linter.unusedVariables false
set_option linter.unusedSimpArgs false
set_option maxRecDepth 100000
set_option maxHeartbeats 2000000
namespace Go.Proofs.YtckfdbjjjgfbfaaGreat
open Go.RowKit
structure St where
 c:CpuN
 b:BusN
def pAA (base a:Nat):Nat:=base / 256*256+a % 256
def St.rdAt (s:St) (a:Nat):Nat×St:=(s.b.get a,⟨s.c,s.b.rd a⟩)
def St.wrAt (s:St) (a d:Nat):St:=⟨s.c,s.b.put a d⟩
def St.fetch (s:St):Nat×St:=(s.b.get s.c.PC,⟨{ s.c with PC:=(s.c.PC+1) % 65536 },s.b.rd s.c.PC⟩)
def St.idle (s:St):St:=⟨s.c,s.b.rd s.c.PC⟩
def St.idleStk (s:St):St:=⟨s.c,s.b.rd (stk s.c.S)⟩
def St.push (s:St) (d:Nat):St:=⟨{ s.c with S:=(s.c.S+255) % 256 },s.b.put (stk s.c.S) d⟩
def St.pull (s:St):Nat×St:=(s.b.get (stk (s.c.S+1)),⟨{ s.c with S:=(s.c.S+1) % 256 },s.b.rd (stk (s.c.S+1))⟩)
def St.fetchW (s:St):Nat×St:=(word s.fetch.1 s.fetch.2.fetch.1,s.fetch.2.fetch.2)
def St.readW (s:St) (a:Nat):Nat×St:=
 (word (s.b.get a) ((s.b.rd a).get (pAA a ((a+1) % 65536))),⟨s.c,(s.b.rd a).rd (pAA a ((a+1) % 65536))⟩)
def St.pushPC (s:St):St:=(s.push (s.c.PC / 256)).push (s.c.PC % 256)
def St.pullPC (s:St):St:=⟨{ s.pull.2.pull.2.c with PC:=word s.pull.1 s.pull.2.pull.1 },s.pull.2.pull.2.b⟩
def St.zero (s:St) (i:Nat):Nat×St:=((s.fetch.1+i) % 256,⟨s.fetch.2.c,s.fetch.2.b.rd s.fetch.1⟩)
def St.indexed (s:St) (base i:Nat) (k:Int):Nat×St:=
 ((base+i) % 65536,if pAA base ((base+i) % 65536)≠(base+i) % 65536\/k≠2 then ⟨s.c,s.b.rd (pAA base ((base+i) % 65536))⟩ else s)
def St.place (s:St) (m k:Int):Nat×St:=
 if m=2 then (s.c.PC,⟨{ s.c with PC:=(s.c.PC+1) % 65536 },s.b⟩)
 else if m=3 then s.fetch
 else if m=4 then s.zero s.c.X
 else if m=5 then s.zero s.c.Y
 else if m=6 then s.fetchW
 else if m=7 then s.fetchW.2.indexed s.fetchW.1 s.c.X k
 else if m=8 then s.fetchW.2.indexed s.fetchW.1 s.c.Y k
 else if m=10 then (s.zero s.c.X).2.readW (s.zero s.c.X).1
 else (s.fetch.2.readW s.fetch.1).2.indexed (s.fetch.2.readW s.fetch.1).1 s.c.Y k
def CpuN.pk (c:CpuN) (c1:Bool):Nat:=(pkV c.N c.V c1 c.D c.I c.Z c.C).toNat
def St.inter (s:St) (c9:Nat) (c1:Bool):St:=
 let t:=s.pushPC.push (s.pushPC.c.pk c1)
 ⟨{ t.c with I:=true,PC:=(t.readW c9).1 },(t.readW c9).2.b⟩
def CpuN.unpack (c:CpuN) (d:Nat):CpuN:={ c with N:=hasB d 128,V:=hasB d 64,D:=hasB d 8,I:=hasB d 4,Z:=hasB d 2,C:=hasB d 1 }
theorem rGB {n:Int} (h:ramI n=false):(n==256)=false/\(n==512)=false/\(n==1024)=false/\(n==2048)=false/\(n==4096)=false:=by
 unfold ramI ramN at h;rw[Bool.and_eq_false_iff] at h;simp only[beq_eq_false_iff_ne];rcases h with h|h
 ·have:=of_decide_eq_false h;omega
 ·have:=of_decide_eq_false h;omega
theorem tRA (n:Nat):ramI (n:Int)=ramN n:=by
 unfold ramI;rw[decide_eq_true (by omega:(0:Int)<=(n:Int))];simp
theorem fMA (n:Int) (w:World) :
  Calls Tryz.prog 71 #[.int .i64 n] w fun e w'=>e=.returned (.bool (ramI n))/\w=w':=by
 cases h:ramI n with
 | false=>
  obtain⟨t1,t2,t3,t4,t5⟩:=rGB h;clear h;go_enter Tryz.func71,Tryz.ntmps71;go_wp2;go_ret;exact⟨rfl,rfl⟩
 | true=>
  unfold ramI at h;rw[Bool.and_eq_true] at h;obtain⟨d,rfl⟩:=Int.eq_ofNat_of_zero_le (of_decide_eq_true h.1);have hr:ramN d=true:=by simpa using h.2
  clear h;rcases wIA hr with t1|⟨t1,t2⟩|⟨t1,t2,t3⟩|⟨t1,t2,t3,t4⟩|⟨t1,t2,t3,t4,t5⟩
  all_goals
   clear hr;go_enter Tryz.func71,Tryz.ntmps71;go_wp2;go_ret;exact⟨rfl,rfl⟩
theorem cEA (a:Option Addr) (n c:Nat) (w:World) :
  Calls Tryz.prog 37 #[ramV (.slice a n c)] w fun e w'=>e=.returned (.bool (ramN n))/\Below w.heap.size w w':=by
 have HS:=fun w=>fMA (n:Int) w
 rw[tRA] at HS;go_enter Tryz.func37,Tryz.ntmps37;go_wp2_with fail;refine (HS _).mono ?_;rintro e z ⟨rfl,rfl⟩;go_wp2;go_ret;exact⟨rfl,(Below.refl _ _).alloc (Nat.le_refl _) _⟩
theorem fUA (n:Int) (w:World) :
  Calls Tryz.prog 72 #[.int .i64 n] w fun e w'=>∃ v,e=.returned (ramV v)/\OwnB w' w.heap.size v (newL n)/\Below w.heap.size w w':=by
 have HS:=fun w=>fMA n w
 cases h:ramI n with
 | false=>
  have hL:newL n=[]:=by unfold newL;rw[h];rfl
  rw[hL];rw[h] at HS;clear h hL;go_enter Tryz.func72,Tryz.ntmps72;go_wp2_with fail;refine (HS _).mono ?_;rintro e z ⟨rfl,rfl⟩;go_wp2;exact bodyPost_ret (v:=ramV (.slice none 0 0)) (by simp[results,Tryz.results72,go_sem]) rfl ⟨_,rfl,zDA _ _,(Below.refl _ _).alloc (Nat.le_refl _) _⟩
 | true=>
  rw[h] at HS;unfold ramI at h;rw[Bool.and_eq_true] at h;obtain⟨d,rfl⟩:=Int.eq_ofNat_of_zero_le (of_decide_eq_true h.1);have hr:ramN d=true:=by simpa using h.2
  have hL:newL d=List.replicate d 0:=by unfold newL ramI;rw[if_pos (by simp[hr])];simp
  have j3:=fun w=>makeB d (by have:=eBA hr;omega) w
  have hb:=eBA hr;rw[hL];clear h hL hr;go_enter Tryz.func72,Tryz.ntmps72;go_wp2_with fail;refine (HS _).mono ?_;rintro e z ⟨rfl,rfl⟩;go_wp2;refine bodyPost_ret (v:=ramV (.slice (some ⟨w.heap.size+1,0,none⟩) d d)) (by simp[results,Tryz.results72,go_sem]) rfl ⟨_,rfl,?_,?_⟩
  ·have:=tKA (w.alloc (Obj.cells #[Value.slice (some ⟨w.heap.size+1,0,none⟩) d d] 30)) (List.replicate d 0) dQh (fun i hi=>qQg);simp only[World.size_alloc,List.length_replicate,List.map_replicate,u8V] at this;exact OwnB.base this dQ
  ·exact ((Below.refl _ _).alloc (Nat.le_refl _) _).alloc xQ _
theorem wNA (a:Option Addr) (n c addr:Nat) (ha:addr < 65536) (U:0 < n/\n<=4096) (w:World) :
  Calls Tryz.prog 46 #[ramV (.slice a n c),.int .u16 addr] w fun e w'=>e=.returned (.int .i64 ((addr % n:Nat):Int))/\w'=w.alloc (.cells #[.slice a n c] 30):=by
 obtain⟨k,hk⟩:∃ k,addr % n=k:=⟨_,rfl⟩;have a3:k < n:=kQe;have j6:(addr:Int).tmod (n:Int)=(k:Int):=by rw[bHA _ _ dQ,hk]
 have j8:((n:Int)==0)=false:=beq_eq_false_iff_ne.2 dQ;have k2:¬ (n:Int)=0:=dQ;have j7:¬ n=0:=dQ;have j4:IntKind.i64.wrap (addr:Int)=(addr:Int):=IntWalk.i64_in _ dQ;have k3:IntKind.i64.wrap (k:Int)=(k:Int):=IntWalk.i64_in _ dQ;rw[hk];clear hk;go_enter Tryz.func46,Tryz.ntmps46;go_wp2;go_ret;exact⟨rfl,rfl⟩
theorem wDA (a:Option Addr) (c addr:Nat) (L:List Nat) (ha:addr < 65536) (w:World) (hr:RowB w a L) :
  Calls Tryz.prog 16 #[ramV (.slice a L.length c),.int .u16 addr] w fun e w'=>e=.returned (.int .u8 (peekL L addr))/\Below w.heap.size w w':=by
 have HO:=fun w=>cEA a L.length c w
 cases h:ramN L.length with
 | false=>
  have e:peekL L addr=0:=by unfold peekL;rw[h];rfl
  rw[e];rw[h] at HO;clear h e;go_enter Tryz.func16,Tryz.ntmps16;go_wp2_with fail;refine (HO _).mono ?_;rintro e z ⟨rfl,b1⟩;have b2:=bstep ((Below.refl _ _).alloc (Nat.le_refl _) _) b1;go_wp2;go_ret;exact⟨rfl,b2⟩
 | true=>
  have hb:=eBA h;obtain⟨g,o,rfl,W,hc⟩:=hr.2 dQ;have HP:=fun w=>wNA (some ⟨g,o,none⟩) L.length c addr ha dQ w
  obtain⟨k,hk⟩:∃ k,addr % L.length=k:=⟨_,rfl⟩;have a3:k < L.length:=kQe;have e:peekL L addr=L.getD k 0:=by unfold peekL;rw[if_pos h,hk]
  rw[e];have b8:=hc k a3;obtain⟨x,hx⟩:∃ x,L.getD k 0=x:=⟨_,rfl⟩;rw[hx] at b8 ⊢;have j2:x < 256:=by rw[<-hx];exact hr.1 k a3
  rw[h] at HO;rw[hk] at HP;have O:=(((Below.refl _ _).alloc (Nat.le_refl _) (.cells #[.slice (some ⟨g,o,none⟩) L.length c] 30)).cell (p:=⟨g,o+k,none⟩) W).trans b8;unfold u8V at O;have ik:(0:Int)<=(k:Int)/\(k:Int) < (L.length:Int):=dQ;clear h e hc hx hr hk b8;go_enter Tryz.func16,Tryz.ntmps16;go_wp2_with fail;refine (HO _).mono ?_;rintro e z ⟨rfl,b1⟩;have hs1:w.heap.size < z.heap.size:=Nat.lt_of_lt_of_le xQ b1.size;have j9:g < z.heap.size:=dQ;have b9:z.cell? ⟨w.heap.size,0,none⟩=some (.slice (some ⟨g,o,none⟩) L.length c):=(b1.cell (p:=⟨w.heap.size,0,none⟩) xQ).trans xQ;have H:=(b1.cell (p:=⟨g,o+k,none⟩) qQ).trans O;have b2:=bstep ((Below.refl _ _).alloc (Nat.le_refl _) _) b1;have b3:=b2.alloc dQ (.cells #[.slice (some ⟨g,o,none⟩) L.length c] 30);clear b1 O;have S0:z.drew.cell? ⟨w.heap.size,0,none⟩=some (.slice (some ⟨g,o,none⟩) L.length c)/\z.drew.cell? ⟨g,o+k,none⟩=some (.int .u8 (x:Int)):=⟨b9,H⟩;have S1:(z.alloc (.cells #[.slice (some ⟨g,o,none⟩) L.length c] 30)).drew.cell? ⟨w.heap.size,0,none⟩=some (.slice (some ⟨g,o,none⟩) L.length c)/\(z.alloc (.cells #[.slice (some ⟨g,o,none⟩) L.length c] 30)).drew.cell? ⟨g,o+k,none⟩=some (.int .u8 (x:Int)):=
   ⟨(World.cell?_alloc_past _ _ _ (by show w.heap.size < z.heap.size;omega)).trans b9,(World.cell?_alloc_past _ _ _ (by show g < z.heap.size;omega)).trans H⟩
  go_wp2_with fail;go_region_held3 (fun w'=>w'.cell? ⟨w.heap.size,0,none⟩=some (.slice (some ⟨g,o,none⟩) L.length c)/\w'.cell? ⟨g,o+k,none⟩=some (.int .u8 (x:Int)))
   (((try dsimp only);(first|(with_reducible exact S0)|(with_reducible exact S1))))
   (first|(go_at_call 46;refine (HP _).mono ?_;rintro e w2 ⟨rfl,rfl⟩))
  go_wp2;go_ret;exact⟨rfl,b3.drew⟩
theorem sNA:dFA:=fun a n c w _=>cEA a n c w
theorem lDB:mPA:=fun a c addr L w ha _ _ hr=>wDA a c addr L ha w hr
theorem vGA (n addr:Nat) (hd:n∣65536):∀ (R:List Nat) (k p j:Nat) (M:List Nat),M.length=n->p+k<=n->k<=R.length->(0 < k->p=(addr+j) % 65536 % n) ->
  gCA n addr R j M=gCA n addr (R.drop k) (j+k) (splice M p (R.take k))
 | R,0,p,j,M,_,_,_,_=>by simp[splice]
 | [],k+1,p,j,M,_,_,hk,_=>by simp at hk
 | x :: r,k+1,p,j,M,B,hp,hk,K=>by
  have e:=K dQ;rw[gCA,<-e];have b7:0 < k->p+1=(addr+(j+1)) % 65536 % n:=fun h0=>by
   rw[Nat.mod_mod_of_dvd _ hd] at e ⊢;have h1:(addr+(j+1)) % n=((addr+j) % n+1) % n:=by rw[show addr+(j+1)=(addr+j)+1 by omega,Nat.add_mod];simp
   rw[h1,<-e,Nat.mod_eq_of_lt dQ]
  rw[vGA n addr hd r k (p+1) (j+1) (M.set p x) (by rw[List.length_set];exact B) dQ hQi b7];have e2:splice (M.set p x) (p+1) (r.take k)=splice M p ((x :: r).take (k+1)):=by
   have hl:(r.take k).length=k:=by rw[List.length_take];simp at hk;omega
   simp only[splice,List.take_succ_cons,List.length_cons,hl];rw[List.take_set,List.drop_set_of_lt dQ,show p+1+k=p+(k+1) by omega];have:(M.take (p+1)).set p x=M.take p++[x]:=by
    rw[List.take_succ_eq_append_getElem dQ,List.set_append_right _ _ (by rw[List.length_take];omega)];simp[List.length_take,Nat.min_eq_left (by omega:p<=M.length)]
   rw[this];simp
  rw[e2];simp only[List.drop_succ_cons];rw[show j+1+k=j+(k+1) by omega]
theorem cRA (n:Nat) (hd:n∣65536) (U:0 < n) (L M:List Nat) (B:M.length=n) (hL:L.length=n):gCA n 0 L 0 M=L:=by
 rw[vGA n 0 hd L n 0 0 M B dQ dQ (fun _=>xQ)];rw[List.drop_of_length_le dQ,gCA,List.take_of_length_le dQ];simp[splice,hL,<-B]
theorem rQA {n:Nat} (h:ramN n=true):n∣65536:=by
 rcases hJA h with rfl|rfl|rfl|rfl|rfl<;>decide
theorem mSA {M R:List Nat} {p:Nat} (B:∀ i,i < M.length->M.getD i 0 < 256) (hR:∀ i,i < R.length->R.getD i 0 < 256):∀ i,i < (splice M p R).length->(splice M p R).getD i 0 < 256:=by
 have key:∀ L:List Nat,(∀ i,i < L.length->L.getD i 0 < 256)↔∀ x ∈ L,x < 256:=fun L=>by
  constructor
  ·intro h x hx;obtain⟨i,hi,rfl⟩:=List.mem_iff_getElem.1 hx;have:=h i hi
   rwa [List.getD,List.getElem?_eq_getElem hi] at this
  ·intro h i hi;rw[List.getD,List.getElem?_eq_getElem hi];exact h _ (List.getElem_mem _)
 rw[key] at B hR ⊢;intro x hx;simp only[splice,List.mem_append] at hx;rcases hx with hx|hx|hx
 ·exact B x (List.mem_of_mem_take hx)
 ·exact hR x hx
 ·exact B x (List.mem_of_mem_drop hx)
theorem pXA {α β:Type} (f:α->β) (L:List α) (p:Nat) (C:List α):(splice L p C).map f=splice (L.map f) p (C.map f):=by
 simp[splice]
theorem nUA {α:Type} (L:List α) (p n:Nat) (C:List α) (h:p+C.length<=n) (U:n<=L.length):(splice L p C).take n=splice (L.take n) p C:=by
 simp only[splice];rw[List.take_append,List.take_append,List.length_take,Nat.min_eq_left (by omega:p<=L.length),List.take_of_length_le (by rw[List.length_take];omega:(L.take p).length<=n),List.take_of_length_le (by omega:C.length<=n - p),List.take_take,Nat.min_eq_left (by omega:p<=n),List.drop_take,Nat.sub_sub]
theorem aSA {w:World} {d2:Array Oper} {b5:List Oper} {o:Oper} {a:Act} {Q:Exit->Act->World->Prop} (e6:o.guard=none) (d s:Operand)
  (ho:o.op=.call { callee:=.builtin .copy,args:=#[d,s],argTypes:=#[22,22] })
  (base g p n c b0 k b4:Nat) (b:Option Addr) (M R:List Nat) (hd:a.eval d=.slice (some ⟨g,p,none⟩) (n - p) b0) (hs:a.eval s=.slice b R.length b4)
  (hk:k=Nat.min R.length (n - p)) (e4:0 < k) (B:M.length=n) (hp:p<=n) (hO:OwnB w base (.slice (some ⟨g,0,none⟩) n c) M) (hR:RowB w b R)
  (h:∀ w',Hid (OwnB w' base (.slice (some ⟨g,0,none⟩) n c) (splice M p (R.take k)))->w.grownBy w' (some g)->wpList Tryz.prog d2 Q b5 (a.put o.dst (goInt k)) w') :
  wpList Tryz.prog d2 Q (o :: b5) a w:=by
 have a3:k<=R.length:=by rw[hk];exact Nat.min_le_left _ _
 have i4:k<=n - p:=by rw[hk];exact Nat.min_le_right _ _
 have J:(R.take k).length=k:=by rw[List.length_take];omega
 obtain⟨gx,ox,rfl,hgx,H⟩:=hR.2 dQ;rcases hO.2.2 with ⟨_,h0⟩|⟨g',cap,E,hv,hb,W,h1,h2,h3,h4⟩
 ·omega
 simp only[Value.slice.injEq,Option.some.injEq,Addr.mk.injEq,and_true] at hv;obtain⟨rfl,_,rfl⟩:=hv;refine wpList_copy_own e6 d s 22 22 ho 5 Tryz.underlying22 gQ g p (n - p) b0 ⟨gx,ox,none⟩ R.length b4 hd hs E 5 W ((R.take k).map u8V) (by rw[List.length_map,J,hk]) ?_ ?_ ?_ ?_
 ·intro j v hj;have:=jFA hR j v;apply this;rw[List.map_take] at hj;rw[List.getElem?_take] at hj;split at hj
  ·exact hj
  ·cases hj
 ·rw[List.length_map,J];omega
 ·intro v hv;rw[List.map_take] at hv;exact oFA R v (List.mem_of_mem_take hv)
 ·have d0:((R.take k).map u8V).length=k:=by rw[List.length_map,J]
  rw[d0];have c0:(splice M p (R.take k)).length=n:=by rw[length_splice _ _ _ (by rw[J];omega)];exact B
  refine h _ (hQ ⟨mSA hO.1 (fun i hi=>?_),?_⟩) ?_
  ·rw[J] at hi;have:=hR.1 i dQ;rw[List.getD,List.getElem?_take,if_pos hi];exact this
  ·refine⟨xQ,.inr ⟨g,c,_,by rw[c0],hb,setRow_heap w g E _ 5 (0,0) W,by rw[c0];omega,h2,?_,?_⟩⟩
   ·simp only[List.size_toArray,List.length_append,List.length_take,List.length_drop,Array.length_toList,List.length_map,Nat.mul_one];omega
   ·rw[c0,Nat.mul_one];have j0:E.toList.take n=M.map u8V:=by rw[<-h4,B,Nat.mul_one]
    rw[pXA,<-j0];have e:E.toList.take p++((R.take k).map u8V++E.toList.drop (p+k))=splice E.toList p ((R.take k).map u8V):=by rw[splice,d0]
    rw[e];exact nUA _ _ _ _ (by rw[List.length_map,J];omega) (by rw[Array.length_toList];omega)
  ·exact⟨rfl,rfl,rfl,by simp[World.setRow],fun k _ hne=>setRow_other w g k _ (by intro e;exact hne (by rw[e]))⟩
def lenOf:Value->Nat
 | .slice _ n _=>n
 | _=>0
theorem RowB.grownBut {w w':World} {g:Nat} {b:Option Addr} {R:List Nat} (h:RowB w b R) (W:w.grownBy w' (some g)) (hne:0 < R.length->∀ a,b=some a->a.block≠g):RowB w' b R:=by
 refine⟨h.1,fun h0=>?_⟩;obtain⟨gx,ox,rfl,a1,hc⟩:=h.2 h0;have hb:=W.block gx a1 (by have:=hne h0 _ rfl;simp at this;simpa using this);exact⟨gx,ox,rfl,Nat.lt_of_lt_of_le a1 W.size,fun i hi=>(World.cell?_of_block (a:=⟨gx,ox+i,none⟩) hb).trans (hc i hi)⟩
theorem RowB.cut {w:World} {g o:Nat} {R:List Nat} (h:RowB w (some ⟨g,o,none⟩) R) (k:Nat):RowB w (some ⟨g,o+k,none⟩) (R.drop k):=by
 have hd:∀ i,i < (R.drop k).length->(R.drop k).getD i 0=R.getD (k+i) 0:=fun i _=>by simp[List.getD]
 refine⟨fun i hi=>?_,fun h0=>?_⟩
 ·rw[hd i hi];rw[List.length_drop] at hi;exact h.1 _ dQ
 ·rw[List.length_drop] at h0;obtain⟨g',o',e,a1,hc⟩:=h.2 dQ;simp only[Option.some.injEq,Addr.mk.injEq,and_true] at e;obtain⟨rfl,rfl⟩:=e;refine⟨g,o+k,rfl,a1,fun i hi=>?_⟩;rw[hd i hi];rw[List.length_drop] at hi;rw[Nat.add_assoc];exact hc (k+i) dQ
theorem RowB.none (w:World) (b:Option Addr):RowB w b []:=⟨fun i hi=>by simp at hi,fun h=>by simp at h⟩
theorem eNA (g n c base addr:Nat) (M:List Nat) (b:Option Addr) (cx:Nat) (X:List Nat) (w:World) (ha:addr < 65536) (U:ramN n=true) (B:M.length=n) (hO:OwnB w base (.slice (some ⟨g,0,none⟩) n c) M) (hX:RowB w b X) (hne:0 < X.length->∀ a,b=some a->a.block≠g) (a6:X.length<=1048576) (H:X.length<=cx) :
  Calls Tryz.prog 73 #[ramV (.slice (some ⟨g,0,none⟩) n c),.int .u16 addr,.slice b X.length cx] w fun e w'=>e=.returned (.tuple #[])/\OwnB w' base (.slice (some ⟨g,0,none⟩) n c) (gCA n addr X 0 M)/\w.grownBy w' (some g):=by
 have k1:=eBA U;have d9:=rQA U;have d3:n<=c/\c<=maxLen/\g < w.heap.size:=by
  rcases hO.2.2 with ⟨_,h0⟩|⟨g',cap,E,hv,_,W,h1,h2,_⟩
  ·omega
  ·simp only[Value.slice.injEq,Option.some.injEq,Addr.mk.injEq,and_true] at hv;obtain⟨rfl,_,rfl⟩:=hv;exact⟨dQ,h2,(Array.getElem?_eq_some_iff.1 W).1⟩
 obtain⟨d3,i7,j5⟩:=d3;unfold maxLen at i7;have HP:=fun w=>wNA (some ⟨g,0,none⟩) n c addr ha dQ w
 obtain⟨p0,a4⟩:∃ p,addr % n=p:=⟨_,rfl⟩;have d8:p0 < n:=by rw[<-a4];exact Nat.mod_lt _ dQ
 rw[a4] at HP;have j1:=hQ a4;have HD:=hQ d9;clear U d9 a4;have d6:=BoxN.new w 30 #[.slice (some ⟨g,0,none⟩) n c];have d4:=d6.below ((Below.refl _ _).alloc (Nat.le_refl _) (.cells #[.slice (some ⟨g,0,none⟩) n c] 30));have B2:Below w.heap.size w ((w.alloc (.cells #[.slice (some ⟨g,0,none⟩) n c] 30)).alloc (.cells #[.slice (some ⟨g,0,none⟩) n c] 30)):=((Below.refl _ _).alloc (Nat.le_refl _) _).alloc xQ _;have H0:=hQ (And.intro (hO.below B2) (And.intro (hX.below B2) (And.intro d4 B2)));clear d6 d4 B2 hO hX;go_enter Tryz.func73,Tryz.ntmps73;go_wp2_with fail;refine (HP _).mono ?_;rintro e z ⟨rfl,hw1⟩;have H1:Hid (OwnB z base (.slice (some ⟨g,0,none⟩) n c) M/\RowB z b X/\BoxN z w.heap.size 30 #[.slice (some ⟨g,0,none⟩) n c]/\Below w.heap.size w z):=by rw[hw1];exact H0
 clear hw1 H0;go_wp2;go_loopw [2,6] (fun l q wr=>∃ (j p:Nat) (R M':List Nat) (b':Option Addr) (cb:Nat),l=.slice b' R.length cb/\q=.int .i64 p/\p < n/\R.length<=cb/\R.length<=1048576/\Hid (M'.length=n/\(0 < R.length->p=(addr+j) % 65536 % n)/\OwnB wr base (.slice (some ⟨g,0,none⟩) n c) M'/\RowB wr b' R/\(0 < R.length->∀ a,b'=some a->a.block≠g)/\BoxN wr w.heap.size 30 #[.slice (some ⟨g,0,none⟩) n c]/\w.grownBy wr (some g)/\gCA n addr R j M'=gCA n addr X 0 M)) (fun l _ _=>lenOf l)
 case atStart=>exact⟨0,p0,X,M,b,cx,rfl,rfl,d8,H,a6,hQ ⟨B,fun _=>by rw[Nat.add_zero,Nat.mod_eq_of_lt ha,j1.out],H1.out.1,H1.out.2.1,hne,H1.out.2.2.1,rMA H1.out.2.2.2,rfl⟩⟩
 case round=>
  obtain⟨j,p,R,M',b',cb,rfl,rfl,hp,b9,hRl,HI⟩:=hrel;obtain⟨c8,K,a9,a2,T,a8,c7,hF⟩:=HI.out;by_cases hz:R.length=0
  ·obtain rfl:R=[]:=List.eq_nil_of_length_eq_zero hz;have a0:=hQ a9;have HF:=hQ hF;clear HI c8 K a9 a2 T a8 hF;go_wp2;first|go_end0|(go_ret)|trace_state
   refine⟨rfl,?_,c7⟩;rw[<-HF.out,gCA];exact a0.out
  ·obtain⟨k,hk⟩:∃ k,Nat.min R.length (n - p)=k:=⟨_,rfl⟩;have i0:k<=R.length:=by rw[<-hk];exact Nat.min_le_left _ _
   have i4:k<=n - p:=by rw[<-hk];exact Nat.min_le_right _ _
   have e4:0 < k:=by rw[<-hk];exact Nat.lt_min.2 ⟨dQ,dQ⟩
   have d7:k=R.length\/k=n - p:=by rw[<-hk];unfold Nat.min;rcases Nat.le_total R.length (n - p) with q|q<;>simp[Nat.min_def]<;>omega
   obtain⟨gx,ox,rfl,hgx,_⟩:=a2.2 dQ;have i5:=a8.cell 0 _ rfl;have HK:=hQ hk;have a0:=hQ a9;have b6:=hQ a2;have HB:=hQ a8;have HG:=hQ c7;have e0:=hQ K;have HF:=hQ hF;have a5:=hQ c8;have e9:=hQ d7;clear HI hk c8 K a9 a2 a8 c7 hF d7;have i1:(0:Int)<=(p:Int)/\(p:Int)<=(n:Int)/\(n:Int)<=(c:Int):=dQ;have i2:(0:Int)<=(k:Int)/\(k:Int)<=(R.length:Int)/\(R.length:Int)<=(cb:Int):=dQ;have i3:(0:Int) < (R.length:Int):=dQ;go_wp2_with (with_reducible refine aSA rfl (.tmp 17) (.tmp 18) rfl base g p n c (c - p) k cb (some ⟨gx,ox,none⟩) M' R rfl rfl HK.out.symm e4 a5.out dQ a0.out b6.out ?_);intro w2 i9 a7;have e8:=hQ (show BoxN w2 w.heap.size 30 #[.slice (some ⟨g,0,none⟩) n c] from (a7.block w.heap.size HB.out.lt (by intro e;simp only[Option.some.injEq] at e;omega)).trans HB.out);have e7:=hQ (b6.out.grownBut a7 T);have i6:=hQ (HG.out.trans a7);clear i5 HB HG b6 a0 a7;go_wp2;have d1:gx≠g:=T dQ _ rfl;go_roundw
   case rel=>
    refine⟨j+k,0,R.drop k,splice M' p (R.take k),_,cb - k,by rw[List.length_drop],rfl,dQ,by rw[List.length_drop];omega,by rw[List.length_drop];omega,hQ ⟨?_,?_,i9.out,?_,?_,e8.out,i6.out,?_⟩⟩
    ·rw[length_splice _ _ _ (by rw[List.length_take,a5.out];omega)];exact a5.out
    ·intro h0;rw[List.length_drop] at h0;have e1:k=n - p:=by rcases e9.out with q|q;omega;exact q
     have e2:=e0.out dQ;rw[Nat.mod_mod_of_dvd _ HD.out] at e2 ⊢;have e3:=Nat.div_add_mod (addr+j) n;rw[show addr+(j+k)=n*((addr+j) / n+1) by rw[Nat.mul_add];omega,Nat.mul_mod_right]
    ·split
     ·rw[List.drop_of_length_le dQ];exact RowB.none _ _
     ·exact e7.out.cut k
    ·intro _ a ea;split at ea
     ·simp only[Option.some.injEq] at ea;rw[<-ea];exact d1
     ·simp only[Option.some.injEq] at ea;rw[<-ea];exact d1
    ·rw[<-HF.out,vGA n addr HD.out R k p j M' a5.out dQ i0 (fun _=>e0.out dQ)]
   case measure=>simp[lenOf];omega
theorem sFB (g n c base:Nat) (M:List Nat) (b:Option Addr) (cx:Nat) (X:List Nat) (w:World) (U:ramN n=true) (B:M.length=n) (hO:OwnB w base (.slice (some ⟨g,0,none⟩) n c) M) (hX:RowB w b X) (hne:0 < X.length->∀ a,b=some a->a.block≠g) (a6:X.length=n) (H:n<=cx) :
  Calls Tryz.prog 73 #[ramV (.slice (some ⟨g,0,none⟩) n c),.int .u16 0,.slice b n cx] w fun e w'=>e=.returned (.tuple #[])/\OwnB w' base (.slice (some ⟨g,0,none⟩) n c) X/\w.grownBy w' (some g):=by
 have hp:=eBA U;have h:=eNA g n c base 0 M b cx X w dQ U B hO hX hne dQ dQ;rw[cRA n (rQA U) dQ X M B a6,a6] at h;exact h

end Go.Proofs.YtckfdbjjjgfbfaaGreat
