import Derived.Test.YtckfdbjjjgfbfaaGreatVPhr
import Derived.WalkKit
import Derived.RegionTactic
import Derived.Test.YtckfdbjjjgfbfaaGreatRows
import Derived.WalkSpells
import Derived.WalkLawsBesides
import Derived.OwnWalk
import Derived.Below
import Derived.WalkSmall
import Derived.Laws.MakeOwn
import Derived.Laws.OwnMore
import Derived.Deep.QuietTactic
import Derived.BigQuiet
import Derived.Deep.Draws
import Derived.RangeFuncBox
set_option linter.unusedVariables false
set_option linter.unusedSimpArgs false
set_option maxRecDepth 100000
namespace Go.Proofs.YtckfdbjjjgfbfaaGreat
open Go.RowKit
def cIA (n:Nat) (z:Array Bool):Nat:=((List.range n).filter fun i=>!z.getD i true).length
theorem cKA {p q:Nat->Bool} {i:Nat} (hp:p i=false) (hq:q i=true) (b1:∀ x,x≠i->p x=q x):∀ l:List Nat,(l.filter p).length<=(l.filter q).length/\(i ∈ l->(l.filter p).length < (l.filter q).length)
 | []=>⟨Nat.le_refl _,fun h=>by cases h⟩
 | x :: r=>by
  obtain⟨h1,h2⟩:=cKA hp hq b1 r;by_cases hx:x=i
  ·subst hx;rw[List.filter_cons_of_neg (by simp[hp]),List.filter_cons_of_pos hq,List.length_cons];exact⟨dQ,fun _=>dQ⟩
  ·have e:=b1 x hx;cases hv:q x with
   | false=>
    rw[List.filter_cons_of_neg (by simp[e,hv]),List.filter_cons_of_neg (by simp[hv])];exact⟨h1,fun h=>h2 ((List.mem_cons.1 h).resolve_left (Ne.symm hx))⟩
   | true=>
    rw[List.filter_cons_of_pos (by rw[e,hv]),List.filter_cons_of_pos hv,List.length_cons,List.length_cons];refine⟨dQ,fun h=>?_⟩;have:=h2 ((List.mem_cons.1 h).resolve_left (Ne.symm hx));omega
theorem qGA {n i:Nat} {z:Array Bool} (hi:i < n) (hl:z.getD i true=false):cIA n (z.setIfInBounds i true) < cIA n z:=by
 have b3:i < z.size:=by
  rcases Nat.lt_or_ge i z.size with h|h
  ·exact h
  ·rw[Array.getD_eq_getD_getElem?,Array.getElem?_eq_none h] at hl;simp at hl
 have e1:(z.setIfInBounds i true).getD i true=true:=by rw[Array.getD_eq_getD_getElem?,Array.getElem?_setIfInBounds_self_of_lt b3];rfl
 exact (cKA (p:=fun j=>!(z.setIfInBounds i true).getD j true) (q:=fun j=>!z.getD j true) (i:=i) (by rw[e1];rfl) (by rw[hl];rfl) (fun x hx=>by
  show (!(z.setIfInBounds i true).getD x true)=!z.getD x true;rw[Array.getD_eq_getD_getElem?,Array.getD_eq_getD_getElem?,Array.getElem?_setIfInBounds_ne (Ne.symm hx)]) (List.range n)).2 (List.mem_range.2 hi)
theorem pHA {md:Region.Mode} {E:Array Oper} {z:Array Bool} {i:Nat} (h:i ∈ Region.ready md E z):i < E.size/\z.getD i true=false:=by
 unfold Region.ready at h;rw[List.mem_filter,Bool.and_eq_true] at h;exact⟨List.mem_range.1 h.1,by simpa using h.2.1⟩
theorem qMA {P:Program} {md:Region.Mode} {E:Array Oper} {Q:Exit->Act->World->Prop} (I:Array Bool->Act->World->Prop)
  (R:∀ z a w i,i ∈ Region.ready md E z->I z a w->wpOp P E Q i (I (z.setIfInBounds i true)) a w)
  (O:∀ z a w,Region.ready md E z=[]->I z a w->Q .normal a w) :
  ∀ (a3:Nat) (z:Array Bool) (a:Act) (w:World),cIA E.size z<=a3->I z a w->wpAny P md E Q a3 z a w
 | 0,z,a,w,hf,hI=>by
  have hr:Region.ready md E z=[]:=by
   cases h:Region.ready md E z with
   | nil=>rfl
   | cons i r=>
    have hm:i ∈ Region.ready md E z:=by rw[h];simp
    obtain⟨h1,h2⟩:=pHA hm;have:=qGA h1 h2;omega
  exact⟨hr,O z a w hr hI⟩
 | a3+1,z,a,w,hf,hI=>by
  refine⟨fun hr=>O z a w hr hI,fun i hi=>?_⟩;obtain⟨h1,h2⟩:=pHA hi;have:=qGA h1 h2;exact wpOp_mono (fun a w h=>qMA I R O a3 _ a w dQ h) (R z a w i hi hI)
def u8V (x:Nat):Value:=.int .u8 (x:Int)
def RowB (w:World) (a:Option Addr) (L:List Nat):Prop:=
 (∀ i,i < L.length->L.getD i 0 < 256)/\(0 < L.length->∃ g o,a=some ⟨g,o,none⟩/\g < w.heap.size/\∀ i,i < L.length->w.cell? ⟨g,o+i,none⟩=some (u8V (L.getD i 0)))
def OwnB (w:World) (base:Nat) (v:Value) (L:List Nat):Prop:=(∀ i,i < L.length->L.getD i 0 < 256)/\w.ownsRow base 5 1 v L.length (L.map u8V)
theorem addrB (g j:Nat):(⟨g,0,none⟩:Addr).add j=⟨g,j,none⟩:=by
 unfold Addr.add;split<;>simp_all
theorem OwnB.len {w:World} {base:Nat} {v:Value} {L:List Nat} (h:OwnB w base v L):∃ a cap,v=.slice a L.length cap:=by
 rcases h.2.2 with ⟨rfl,h0⟩|⟨g,cap,_,rfl,_⟩
 ·exact⟨none,0,by rw[h0]⟩
 ·exact⟨_,_,rfl⟩
theorem OwnB.row {w:World} {base:Nat} {a:Option Addr} {n cap:Nat} {L:List Nat} (h:OwnB w base (.slice a n cap) L):n=L.length/\RowB w a L:=by
 have h':=h.2;rcases h.2.2 with ⟨hv,h0⟩|⟨g,cp,a4,hv,hb,hg,h1,h2,h3,_⟩
 ·simp only[Value.slice.injEq] at hv;exact⟨dQ,h.1,fun hl=>dQ⟩
 ·simp only[Value.slice.injEq] at hv;obtain⟨rfl,rfl,rfl⟩:=hv;refine⟨rfl,h.1,fun _=>⟨g,0,rfl,(Array.getElem?_eq_some_iff.1 hg).1,fun i hi=>?_⟩⟩;have:=World.ownsRow.cells h' (g:=g) rfl i (u8V (L.getD i 0)) (by simp[List.getD,hi]);rw[addrB] at this
  rwa [Nat.zero_add]
theorem OwnB.below {w w':World} {base:Nat} {v:Value} {L:List Nat} (h:OwnB w base v L) (hb:Below w.heap.size w w'):OwnB w' base v L:=by
 refine⟨h.1,World.ownsRow.kept h.2 (row:=none) ⟨hb.os,hb.tape,hb.output,hb.size,fun i hi _=>hb.block i hi⟩ ?_⟩;cases v.ownBlock with
 | none=>exact .inl rfl
 | some g=>exact .inr yQ
theorem OwnB.drewN {w:World} {base:Nat} {v:Value} {L:List Nat} (h:OwnB w base v L) (k:Nat):OwnB (w.drewN k) base v L:=h
theorem RowB.below {w w':World} {a:Option Addr} {L:List Nat} (h:RowB w a L) (hb:Below w.heap.size w w'):RowB w' a L:=by
 refine⟨h.1,fun hl=>?_⟩;obtain⟨g,o,rfl,hg,hc⟩:=h.2 hl;exact⟨g,o,rfl,Nat.lt_of_lt_of_le hg hb.size,fun i hi=>(hb.cell (p:=⟨g,o+i,none⟩) hg).trans (hc i hi)⟩
theorem RowB.drewN {w:World} {a:Option Addr} {L:List Nat} (h:RowB w a L) (k:Nat):RowB (w.drewN k) a L:=h
theorem yEA:(Tryz.prog.info? 5).map (fun i=>(i.zero,i.size,i.bytes))=some (some (.int .u8 0),1,1):=gQ
theorem yDB (v:Value) (n:Nat):madeCells #[v] n=(List.replicate n v).toArray:=by
 apply Array.ext
 ·simp[madeCells]
 ·intro i h1 h2;simp[madeCells,Nat.mod_one]
theorem makeB (d:Nat) (h:d<=1048576) (w:World):(Instr.makeSlice 22 (.int .i64 (d:Int)) (.int .i64 (d:Int))).run Tryz.prog w =
  .ok (.slice (some ⟨w.heap.size,0,none⟩) d d) (w.alloc (.cells (List.replicate d (Value.int .u8 0)).toArray 5)):=by
 obtain⟨i0,hi,hz0,hz1,b4⟩:=info_parts yEA;have hr:=run_make (P:=Tryz.prog) w 22 5 i0 (.int .u8 0) Tryz.underlying22 hi hz0 .i64 .i64 d d dQ dQ (by rw[b4];omega) dQ;simp only[Int.toNat_natCast] at hr;rw[hr,hz1,Nat.mul_one];congr 3;exact yDB _ _
theorem jVA (a1 a2:Option Addr) (c1 c2:Nat) (L:List Nat) (w:World) (hl:L.length<=9223372036854775806) (h1:RowB w a1 L) (h2:RowB w a2 L) :
  Calls Tryz.prog 12 #[.slice a1 L.length c1,.slice a2 L.length c2] w fun e w'=>e=.returned (.bool true)/\∃ k,w'=w.drewN k:=by
 have H1:=j_ h1;have H2:=j_ h2;clear h1 h2;go_enter Tryz.func12,Tryz.ntmps12;go_wp2;go_loopw [5] (fun i wr=>∃ k d:Nat,k<=L.length/\i=.int .i64 k/\wr=w.drewN d) (fun i _=>L.length - (intOf i).toNat)
 case atStart=>exact⟨0,0,Nat.zero_le _,rfl,rfl⟩
 case round=>
  obtain⟨k,d,hk,rfl,rfl⟩:=hrel;by_cases hp:k < L.length
  ·obtain⟨g1,o1,rfl,_,e1⟩:=H1.out.2 dQ;obtain⟨g2,o2,rfl,_,e2⟩:=H2.out.2 dQ;have f1:=e1 k hp;have f2:=e2 k hp;clear e1 e2;obtain⟨x,hx⟩:∃ x,L.getD k 0=x:=⟨_,rfl⟩;rw[hx] at f1 f2;clear hx;unfold u8V at f1 f2;go_wp2;go_quiet (fail);go_wp2;go_roundw
   case rel=>exact⟨k+1,_,dQ,bQh,rfl⟩
   case measure=>simp[intOf];omega
  ·go_wp2;go_ret;exact⟨rfl,_,rfl⟩
theorem OwnB.base {w:World} {b b':Nat} {v:Value} {L:List Nat} (h:OwnB w b v L) (hb:b'<=b):OwnB w b' v L:=by
 refine⟨h.1,h.2.1,?_⟩;rcases h.2.2 with hn|⟨g,cap,a4,hv,hg,b2⟩
 ·exact .inl hn
 ·exact .inr ⟨g,cap,a4,hv,Nat.le_trans hb hg,b2⟩
theorem OwnB.cells {w:World} {base:Nat} {v:Value} {L:List Nat} (h:OwnB w base v L) (hl:0 < L.length):∃ g cap,v=.slice (some ⟨g,0,none⟩) L.length cap/\∀ j u,(L.map u8V)[j]?=some u->w.cell? ((⟨g,0,none⟩:Addr).add j)=some u:=by
 have h':=h.2;rcases h.2.2 with ⟨_,h0⟩|⟨g,cap,a4,rfl,_⟩
 ·omega
 ·exact⟨g,cap,rfl,World.ownsRow.cells h' (g:=g) rfl⟩
theorem iFA (L:List Nat):∀ u ∈ L.map u8V,u.oneCell'=true:=by
 intro u hu;obtain⟨x,_,rfl⟩:=List.mem_map.1 hu;rfl
theorem RowB.byte' {w:World} {a:Option Addr} {L:List Nat} (h:RowB w a L) (i:Nat):L.getD i 0 < 256:=by
 by_cases hi:i < L.length
 ·exact h.1 i hi
 ·simp[List.getD,List.getElem?_eq_none (by omega:L.length<=i)]
theorem gFA {w w':World} {base g:Nat} {v:Value} {L:List Nat} (h:OwnB w base v L) (hg:w.grownBy w' (some g)) (hne:∀ k,v.ownBlock=some k->k≠g):OwnB w' base v L:=by
 refine⟨h.1,World.ownsRow.kept h.2 hg ?_⟩;cases hv:v.ownBlock with
 | none=>exact .inl rfl
 | some k=>exact .inr (by simpa using hne k hv)
theorem fGB (w:World) (L:List Nat) (hL:L.length<=3) (hb:∀ i,i < L.length->L.getD i 0 < 256):OwnB (w.alloc (.cells (L.map u8V).toArray 5)) w.heap.size (.slice (some ⟨w.heap.size,0,none⟩) L.length L.length) L:=
 ⟨hb,yQ,.inr ⟨w.heap.size,L.length,(L.map u8V).toArray,rfl,Nat.le_refl _,heap_alloc_new w _,Nat.le_refl _,nQe,yQ,by simp[List.take_of_length_le]⟩⟩
theorem vDA (w:World) (B:Nat):OwnB w B (.slice none 0 0) []:=⟨fun i hi=>by simp at hi,World.ownsRow_nil _ _ _ _⟩
theorem bstep {w a b:World} (h:Below w.heap.size w a) (k:Below a.heap.size a b):Below w.heap.size w b:=h.trans (k.mono h.size)
theorem fIA {w w1:World} {g o:Nat} {v:Value} (hb:Below w.heap.size w w1) (h:w.cell? ⟨g,o,none⟩=some v) (hg:g < w.heap.size):w1.cell? ⟨g,o,none⟩=some v:=by
 rw[hb.cell (p:=⟨g,o,none⟩) hg];exact h
theorem qFA {base B:Nat} (w:World) (hB:B=w.heap.size) (hb:base<=w.heap.size):(w.alloc (.cells #[] 5)).ownsRow base 5 1 (.slice (some ⟨B,0,none⟩) 0 0) 0 []:=by
 subst hB;exact World.ownsRow_made w #[] 0 hb iQ rfl
structure Span (lo hi:Nat) (w w':World):Prop where
 os:w'.os=w.os
 tape:w'.tape=w.tape
 output:w'.output=w.output
 size:w.heap.size<=w'.heap.size
 block:∀ i,i < w.heap.size->i < lo\/hi<=i->w'.heap[i]?=w.heap[i]?
theorem Span.of_grown {w w':World} {lo hi g:Nat} (h:w.grownBy w' (some g)) (h1:lo<=g) (h2:g < hi):Span lo hi w w':=
 ⟨h.os,h.tape,h.output,h.size,fun i J hd=>h.block i J (by intro e;simp only[Option.some.injEq] at e;omega)⟩
theorem Span.of_below {w w':World} (lo hi:Nat) (h:Below w.heap.size w w'):Span lo hi w w':=
 ⟨h.os,h.tape,h.output,h.size,fun i J _=>h.block i J⟩
theorem Span.trans {lo hi:Nat} {a b c:World} (h:Span lo hi a b) (k:Span lo hi b c):Span lo hi a c:=
 ⟨k.os.trans h.os,k.tape.trans h.tape,k.output.trans h.output,Nat.le_trans h.size k.size,fun i J hd=>(k.block i (Nat.lt_of_lt_of_le J h.size) hd).trans (h.block i J hd)⟩
theorem Span.wide {lo hi a5 J:Nat} {a b:World} (h:Span lo hi a b) (h1:a5<=lo) (h2:hi<=J):Span a5 J a b:=
 ⟨h.os,h.tape,h.output,h.size,fun i J hd=>h.block i J dQ⟩
theorem Span.below {lo hi n:Nat} {a b:World} (h:Span lo hi a b) (h1:n<=lo) (h2:n<=a.heap.size):Below n a b:=
 ⟨h.os,h.tape,h.output,h.size,fun i J=>h.block i dQ (.inl dQ)⟩
theorem Span.set (w:World) (B k:Nat) (v:Value):Span B (B+1) w (w.setCell ⟨B,k,none⟩ v):=
 ⟨rfl,rfl,rfl,yQ,fun i _ hd=>Below.heap_setCell _ _ _ _ (by show i≠B;omega)⟩
def BoxN (W:World) (B:Nat) (t:TypeId) (cs:Array Value):Prop:=W.heap[B]?=some (.cells cs t (0,0))
theorem BoxN.lt {W:World} {B:Nat} {t:TypeId} {cs:Array Value} (h:BoxN W B t cs):B < W.heap.size:=(Array.getElem?_eq_some_iff.1 h).1
theorem BoxN.cell {W:World} {B:Nat} {t:TypeId} {cs:Array Value} (h:BoxN W B t cs) (i:Nat) (v:Value) (hv:cs[i]?=some v):W.cell? ⟨B,i,none⟩=some v:=by
 simp[World.cell?,show W.heap[B]?=_ from h,hv]
theorem BoxN.frozen {W:World} {B:Nat} {t:TypeId} {cs:Array Value} (h:BoxN W B t cs) (i:Nat):W.frozen? ⟨B,i,none⟩=false:=by
 simp[World.frozen?,show W.heap[B]?=_ from h]
theorem BoxN.new (W:World) (t:TypeId) (cs:Array Value):BoxN (W.alloc (.cells cs t)) W.heap.size t cs:=World.alloc_heap_new W _
theorem BoxN.below {w w1:World} {B:Nat} {t:TypeId} {cs:Array Value} (h:BoxN w B t cs) (hb:Below w.heap.size w w1):BoxN w1 B t cs:=(hb.block B h.lt).trans h
theorem BoxN.span {w w1:World} {lo hi B:Nat} {t:TypeId} {cs:Array Value} (h:BoxN w B t cs) (hs:Span lo hi w w1) (hd:B < lo\/hi<=B):BoxN w1 B t cs:=(hs.block B h.lt hd).trans h
theorem BoxN.set {W:World} {B:Nat} {t:TypeId} {cs:Array Value} (h:BoxN W B t cs) (i:Nat) (v:Value):BoxN (W.setCell ⟨B,i,none⟩ v) B t (cs.setIfInBounds i v):=heap_setCell_same W B i cs t v h
theorem BoxN.drew {W:World} {B:Nat} {t:TypeId} {cs:Array Value} (h:BoxN W B t cs):BoxN W.drew B t cs:=h
theorem boxN_of {W:World} {B:Nat} {t:TypeId} {v:Value} (h:Boxed W B t v):BoxN W B t #[v]:=h
def SegB (w:World) (lo hi:Nat) (v:Value) (L:List Nat):Prop:=OwnB w lo v L/\∀ k,v.ownBlock=some k->k < hi
theorem SegB.of {w:World} {lo:Nat} {v:Value} {L:List Nat} (h:OwnB w lo v L):SegB w lo w.heap.size v L:=⟨h,fun k ek=>((World.ownsRow.lt h.2) k ek).2⟩
theorem SegB.below {w w':World} {lo hi:Nat} {v:Value} {L:List Nat} (h:SegB w lo hi v L) (hb:Below w.heap.size w w'):SegB w' lo hi v L:=⟨h.1.below hb,h.2⟩
theorem SegB.drew {w:World} {lo hi:Nat} {v:Value} {L:List Nat} (h:SegB w lo hi v L):SegB w.drew lo hi v L:=h
theorem SegB.span {w w':World} {lo hi a5 J:Nat} {v:Value} {L:List Nat} (h:SegB w lo hi v L) (hs:Span a5 J w w') (hd:hi<=a5\/J<=lo):SegB w' lo hi v L:=by
 refine⟨⟨h.1.1,?_⟩,h.2⟩;have ho:=h.1.2;rcases ho.2 with hn|⟨g,cap,a4,hv,hb,hg,a7⟩
 ·exact⟨ho.1,.inl hn⟩
 ·have b5:g < hi:=h.2 g (by rw[hv];rfl);refine⟨ho.1,.inr ⟨g,cap,a4,hv,hb,?_,a7⟩⟩;rw[hs.block g (Array.getElem?_eq_some_iff.1 hg).1 dQ];exact hg
theorem SegB.len {w:World} {lo hi:Nat} {v:Value} {L:List Nat} (h:SegB w lo hi v L):∃ a cap,v=.slice a L.length cap/\L.length<=cap:=by
 rcases h.1.2.2 with ⟨rfl,h0⟩|⟨g,cap,a4,rfl,hb,hg,h1,_⟩
 ·exact⟨none,0,by rw[h0],dQ⟩
 ·exact⟨_,_,rfl,h1⟩
theorem SegB.row {w:World} {lo hi:Nat} {a:Option Addr} {n cap:Nat} {L:List Nat} (h:SegB w lo hi (.slice a n cap) L):RowB w a L:=h.1.row.2
def pAA (n:Nat):Code->Option (Array Oper)
 | .region id E _=>if id==n then some E else none
 | .seq a b=>(pAA n a).orElse fun _=>pAA n b
 | .cond _ a b=>(pAA n a).orElse fun _=>pAA n b
 | .block _ c=>pAA n c
 | .loop c=>pAA n c
 | .scope c=>pAA n c
 | .rangeFunc _ _ a b=>(pAA n a).orElse fun _=>pAA n b
 | _=>none
def vCA (E:Array Oper):Bool:=(List.range E.size).all fun i=>((E[i]?).map (·.after.all fun e=>decide (e.on < i) || !Region.binds .any e)).getD true
theorem eIA {E:Array Oper} {z:Array Bool} (hb:vCA E=true) (hr:Region.ready .any E z=[]) (hs:z.size=E.size) :
  ∀ n j,j < n->j < E.size->z.getD j false=true
 | 0,j,h,_=>absurd h (Nat.not_lt_zero j)
 | n+1,j,h,hj=>by
  have ih:=eIA hb hr hs n;cases hl:z.getD j true with
  | true=>
   rw[Array.getD_eq_getD_getElem?,Array.getElem?_eq_getElem dQ] at hl ⊢;exact hl
  | false=>
   have hm:j ∈ Region.ready .any E z:=by
    refine mem_ready.2 ⟨hl,E[j],Array.getElem?_eq_getElem hj,fun e he a6=>?_⟩;have a9:e.on < j:=by
     unfold vCA at hb;have h1:=List.all_eq_true.1 hb j (List.mem_range.2 hj);rw[Array.getElem?_eq_getElem hj] at h1;simp only[Option.map_some,Option.getD_some] at h1;have h2:=Array.all_eq_true_iff_forall_mem.1 h1 e he;rw[a6,Bool.not_true,Bool.or_false] at h2;exact of_decide_eq_true h2
    exact ih e.on dQ dQ
   rw[hr] at hm;cases hm
theorem vBA {P:Program} {E:Array Oper} {Q:Exit->Act->World->Prop} (hm:P.follows .mixedOrders=true) (hb:vCA E=true)
  (I:(Nat->Prop)->Act->World->Prop)
  (R:∀ i,i < E.size->∀ (D:Nat->Prop) a w,¬ D i->(∀ o,E[i]?=some o->∀ e ∈ o.after,Region.binds .any e=true->D e.on)->I D a w->wpOp P E Q i (I fun j=>j=i\/D j) a w)
  (O:∀ D a w,(∀ j,j < E.size->D j)->I D a w->Q .normal a w)
  (id:Nat) (a:Act) (w:World) (h0:I (fun _=>False) a w.drew):(Code.region id E true).wp P Q a w:=by
 refine wp_region_any hm ?_;refine qMA (fun z a w=>z.size=E.size/\I (fun j=>z.getD j false=true) a w) ?_ ?_ _ _ _ _ ?_ ?_
 ·intro z a w i hi ⟨hs,hI⟩;obtain⟨h1,o,ho,a8⟩:=mem_ready.1 hi;have a9:i < E.size:=(Array.getElem?_eq_some_iff.1 ho).1;have hn:¬ z.getD i false=true:=by
   rw[Array.getD_eq_getD_getElem?,Array.getElem?_eq_getElem dQ] at h1 ⊢;rw[show z[i]=false from h1];exact Bool.false_ne_true
  refine wpOp_mono ?_ (R i a9 _ a w hn (fun o' b0 e he a6=>by rw[ho] at b0;cases b0;exact a8 e he a6) hI);intro a' w' h;refine⟨by rw[Array.size_setIfInBounds];exact hs,?_⟩;have e:(fun j=>(z.setIfInBounds i true).getD j false=true)=fun j=>j=i\/z.getD j false=true:=by
   funext j;by_cases hj:j=i
   ·subst hj;rw[Array.getD_eq_getD_getElem?,Array.getElem?_setIfInBounds_self_of_lt dQ];simp
   ·rw[Go.getD_set_ne false (Ne.symm hj)];simp[hj]
  rw[e];exact h
 ·intro z a w hr ⟨hs,hI⟩;exact O _ a w (fun j hj=>eIA hb hr hs (j+1) j (Nat.lt_succ_self j) hj) hI
 ·unfold cIA;exact Nat.le_trans (List.length_filter_le _ _) yQ
 ·refine⟨yQ,?_⟩;have e:(fun j=>(Array.replicate E.size false).getD j false=true)=fun _=>False:=by
   funext j;rw[Array.getD_eq_getD_getElem?,Array.getElem?_replicate];split<;>simp
  rw[e];exact h0
abbrev IsOp (E:Array Oper) (i:Nat) (dst:Option Tmp) (op:Op):Prop:=(E[i]?).map (fun o=>(o.dst,o.op,o.guard))=some (dst,op,none)
theorem isOp {E:Array Oper} {i:Nat} {dst:Option Tmp} {op:Op} (h:IsOp E i dst op):∃ o,E[i]?=some o/\o.guard=none/\o.dst=dst/\o.op=op:=by
 unfold IsOp at h;cases ho:E[i]? with
 | none=>rw[ho] at h;cases h
 | some o=>
  rw[ho] at h;simp only[Option.map_some,Option.some.injEq,Prod.mk.injEq] at h;exact⟨o,rfl,h.2.2,h.1,h.2.1⟩
abbrev Waits (E:Array Oper) (i j:Nat):Prop:=((E[i]?).map fun o=>o.after.any fun e=>Region.binds .any e && e.on==j).getD false=true
theorem waits {E:Array Oper} {i j:Nat} {D:Nat->Prop} (h:Waits E i j) (hd:∀ o,E[i]?=some o->∀ e ∈ o.after,Region.binds .any e=true->D e.on):D j:=by
 unfold Waits at h;cases ho:E[i]? with
 | none=>rw[ho] at h;cases h
 | some o=>
  rw[ho] at h;simp only[Option.map_some,Option.getD_some] at h;obtain⟨e,he,hb⟩:=Array.any_eq_true'.1 h;rw[Bool.and_eq_true,beq_iff_eq] at hb;have:=hd o ho e he hb.1
  rwa [hb.2] at this
section
variable {P:Program} {E:Array Oper} {Q:Exit->Act->World->Prop} {K:Act->World->Prop} {a:Act} {w w':World} {i d:Nat} {v:Value}
theorem zJA {o:Oper} (ho:E[i]?=some o) (hg:o.guard=none) (h:Oper.wp P o a w K Q):wpOp P E Q i K a w:=by
 unfold wpOp;rw[ho];have hw:Region.wanted o (yielded E a.tmps)=true:=by unfold Region.wanted;rw[hg]
 simp only[hw,if_true];exact .inl h
theorem qAA {op:Op} (H:IsOp E i (some d) op) (h:∀ o,o.op=op->(execOp a.eval o).run P w=.ok (.value v) w') (hK:K (a.put (some d) v) w'):wpOp P E Q i K a w:=by
 obtain⟨o,h1,h2,h3,h4⟩:=isOp H;refine zJA h1 h2 ?_;unfold Oper.wp;rw[h o h4,Oper.upon_value,h3];exact hK
theorem bZA {op:Op} (H:IsOp E i none op) (h:∀ o,o.op=op->(execOp a.eval o).run P w=.ok .skip w') (hK:K a w'):wpOp P E Q i K a w:=by
 obtain⟨o,h1,h2,h3,h4⟩:=isOp H;refine zJA h1 h2 ?_;unfold Oper.wp;rw[h o h4,Oper.upon_skip,h3];exact hK
theorem yWA {op:Op} {f:FuncId} {args:Array Value} (H:IsOp E i (some d) op) (h:∀ o,o.op=op->(execOp a.eval o).run P w=.ok (.enter f args) w)
  (hC:Calls P f args w fun e w'=>∃ v,e=.returned v/\K (a.put (some d) v) w'):wpOp P E Q i K a w:=by
 obtain⟨o,h1,h2,h3,h4⟩:=isOp H;refine zJA h1 h2 ?_;unfold Oper.wp;rw[h o h4,Oper.upon_enter,h3];refine hC.mono ?_;rintro e b6 ⟨v,rfl,hk⟩;exact hk
theorem zCA {x:Operand} (H:IsOp E i (some d) (.move x)) (hs:a.eval x=v) (hK:K (a.put (some d) v) w):wpOp P E Q i K a w:=
 qAA H (fun o ho=>by unfold execOp;rw[ho];dsimp only;rw[hs];rfl) hK
theorem vFA {x:Operand} (H:IsOp E i (some d) (.assign x)) (hs:a.eval x=v) (hK:K (a.put (some d) v) w):wpOp P E Q i K a w:=
 qAA H (fun o ho=>by unfold execOp;rw[ho];dsimp only;rw[hs];rfl) hK
theorem aCA {t:TypeId} {x:Operand} {p:Value} (H:IsOp E i (some d) (.load t x)) (hs:a.eval x=p) (hr:(Instr.loadAt t p).run P w=.ok v w) (hK:K (a.put (some d) v) w):wpOp P E Q i K a w:=
 qAA H (fun o ho=>by unfold execOp;rw[ho];dsimp only;rw[hs,Sem.run_bind,hr];rfl) hK
theorem ePA {t:TypeId} (H:IsOp E i (some d) (.alloc t)) (hr:(Instr.alloc t true (.tuple #[])).run P w=.ok v w') (hK:K (a.put (some d) v) w'):wpOp P E Q i K a w:=
 qAA H (fun o ho=>sQf) hK
theorem pDA {x:Operand} {k:Nat} {vs:Array Value} (H:IsOp E i (some d) (.extract x k)) (hs:a.eval x=.tuple vs) (hk:vs[k]?=some v) (hK:K (a.put (some d) v) w):wpOp P E Q i K a w:=
 qAA H (fun o ho=>by unfold execOp;rw[ho];dsimp only;rw[hs];simp[go_sem,Instr.extract,hk]) hK
theorem mDA {t:TypeId} {x y:Operand} {p:Value} (H:IsOp E i none (.store t x y)) (hs:a.eval x=p) (hy:a.eval y=v) (hr:(Instr.storeAt t p v).run P w=.ok () w') (hK:K a w'):wpOp P E Q i K a w:=
 bZA H (fun o ho=>by unfold execOp;rw[ho];dsimp only;rw[hs,hy,Sem.run_bind,hr];rfl) hK
theorem fPA {t:TypeId} {n:Nat} {ps:Array (Nat×Operand)} (H:IsOp E i (some d) (.buildSlice t n ps)) (hr:(Instr.buildSlice t n (ps.map fun (k,x)=>(k,a.eval x))).run P w=.ok v w') (hK:K (a.put (some d) v) w'):wpOp P E Q i K a w:=
 qAA H (fun o ho=>sQf) hK
theorem oAA {u:Value}:a.eval (.const u)=u:=rfl
theorem bAA (h:d < a.tmps.size):(a.put (some d) v).eval (.tmp d)=v:=by
 simp[Act.eval,Act.put,h]
theorem aAA {t:Nat} (h:t≠d):(a.put (some d) v).eval (.tmp t)=a.eval (.tmp t):=by
 simp[Act.eval,Act.put,Array.getElem?_setIfInBounds_ne (Ne.symm h)]
end
structure xAA (U:Act) (ws:List Nat) (a:Act):Prop where
 defers:a.defers=U.defers
 size:a.tmps.size=U.tmps.size
 keep:∀ t,t ∉ ws->a.tmps[t]?=U.tmps[t]?
theorem xAA.refl (U:Act) (ws:List Nat):xAA U ws U:=⟨rfl,rfl,fun _ _=>rfl⟩
theorem xAA.put {U a:Act} {ws:List Nat} (h:xAA U ws a) {d:Nat} (hd:d ∈ ws) (v:Value):xAA U ws (a.put (some d) v):=
 ⟨h.defers,by show (a.tmps.setIfInBounds d v).size=_;rw[Array.size_setIfInBounds];exact h.size,fun t ht=>by
  show (a.tmps.setIfInBounds d v)[t]?=_;rw[Array.getElem?_setIfInBounds_ne (fun e=>ht (by rw[<-e];exact hd))];exact h.keep t ht⟩
theorem xAA.eval {U a:Act} {ws:List Nat} (h:xAA U ws a) {t:Nat} (ht:t ∉ ws):a.eval (.tmp t)=U.eval (.tmp t):=by
 simp only[Act.eval,Array.getD_eq_getD_getElem?];rw[h.keep t ht]
def pJA (b:Array Value) (f:Nat->Value):List Nat->Array Value
 | []=>b
 | k :: r=>pJA (b.setIfInBounds k (f k)) f r
theorem mMA (f:Nat->Value):∀ (ws:List Nat) (b:Array Value) (t:Nat),(pJA b f ws)[t]?=if t ∈ ws/\t < b.size then some (f t) else b[t]?
 | [],b,t=>by simp[pJA]
 | k :: r,b,t=>by
  show (pJA (b.setIfInBounds k (f k)) f r)[t]?=_;rw[mMA f r,Array.size_setIfInBounds];by_cases h1:t ∈ r
  ·by_cases h2:t < b.size
   ·simp[h1,h2]
   ·rw[if_neg (by simp[h2]),if_neg (by simp[h2]),Array.getElem?_eq_none (by rw[Array.size_setIfInBounds];omega),Array.getElem?_eq_none dQ]
  ·by_cases hk:t=k
   ·subst hk;by_cases h2:t < b.size
    ·rw[if_neg (by simp[h1]),if_pos (by simp[h2]),Array.getElem?_setIfInBounds_self_of_lt h2]
    ·rw[if_neg (by simp[h1]),if_neg (by simp[h2]),Array.getElem?_eq_none (by rw[Array.size_setIfInBounds];omega),Array.getElem?_eq_none dQ]
   ·rw[if_neg (by simp[h1]),if_neg (by simp[h1,hk]),Array.getElem?_setIfInBounds_ne (Ne.symm hk)]
theorem xAA.eq {U a:Act} {ws:List Nat} (h:xAA U ws a):a=⟨pJA U.tmps (fun t=>a.eval (.tmp t)) ws,U.defers⟩:=by
 obtain⟨T,df⟩:=a;have hd:df=U.defers:=h.defers;subst hd;congr 1;refine Array.ext_getElem? fun t=>?_
 rw[mMA];split
 ·rename_i ht;have hs:t < T.size:=by have:=h.size;dsimp only at this;omega
  simp[Act.eval,hs]
 ·rename_i ht;by_cases h2:t < U.tmps.size
  ·exact h.keep t (fun e=>ht ⟨e,h2⟩)
  ·have:=h.size;dsimp only at this;rw[Array.getElem?_eq_none dQ,Array.getElem?_eq_none dQ]

end Go.Proofs.YtckfdbjjjgfbfaaGreat
