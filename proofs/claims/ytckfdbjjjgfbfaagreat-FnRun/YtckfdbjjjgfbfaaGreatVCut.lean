import Derived.Test.YtckfdbjjjgfbfaaGreatVSameC
set_option linter.unusedVariables false
set_option linter.unusedSimpArgs false
set_option maxRecDepth 100000
set_option maxHeartbeats 800000
namespace Go.Proofs.YtckfdbjjjgfbfaaGreat
open Go.RowKit
theorem rYA {c:CpuN} {L:List Nat} (h:c.ok) (hb:∀ i,L.getD i 0 < 256):∀ i,(stepN c L).2.mem.getD i 0 < 256:=by
 unfold stepN;split
 ·split
  ·exact hb
  ·exact (cYA (b:=⟨L,[]⟩) hb h).2
 ·intro i;simp
theorem gKA {c:CpuN} {L:List Nat} (h:c.ok) (hb:∀ i,L.getD i 0 < 256) (nmi:Bool):∀ i,(jBA c L nmi).2.mem.getD i 0 < 256:=by
 unfold jBA;split
 ·exact (rKA (b:=((⟨L,[]⟩:BusN).rd c.PC).rd c.PC) hb h _ _ _).2
 ·intro i;simp
def KeepF (m:Nat) (s:ShotN):Prop:=s.cpu.ok/\(∀ i,s.mem.getD i 0 < 256)/\s.mem.length=m
theorem yXA (E:List EvN) (k:Nat) {m:Nat} (W:ramN m=true) {s:ShotN} (h:KeepF m s):KeepF m (unitN E k s):=by
 obtain⟨h1,h2,h3⟩:=h;have hr:ramN s.mem.length=true:=by rw[h3];exact W
 unfold unitN;split
 ·exact⟨gGA h1 h2 true,gKA h1 h2 true,(nFA (c:=s.cpu) (nmi:=true) hr).trans h3⟩
 ·split
  ·exact⟨gGA h1 h2 false,gKA h1 h2 false,(nFA (c:=s.cpu) (nmi:=false) hr).trans h3⟩
  ·split
   ·exact⟨h1,h2,h3⟩
   ·exact⟨sKA h1 h2,rYA h1 h2,(vJA (c:=s.cpu) hr).trans h3⟩
theorem cLA (E:List EvN) {m:Nat} (W:ramN m=true):∀ (n k:Nat) (s:ShotN),KeepF m s->KeepF m (hBA E n k s)
 | 0,_,_,h=>h
 | n+1,k,s,h=>by
  rw[oFA];split
  ·exact h
  ·exact cLA E W n (k+1) _ (yXA E k W h)
theorem wYA (E:List EvN) (k:Nat) (s:ShotN):(unitN E k s).trace.length<=s.trace.length+8:=by
 have a2:∀ r:CpuN×BusN,r.2.log.length<=8->(s.on r).trace.length<=s.trace.length+8:=fun r h2=>by
  show (s.trace++r.2.log).length<=_;rw[List.length_append];omega
 unfold unitN;split
 ·exact a2 _ (mFA s.cpu s.mem true).2
 ·split
  ·exact a2 _ (mFA s.cpu s.mem false).2
  ·split
   ·exact Nat.le_add_right _ _
   ·exact a2 _ (uJA s.cpu s.mem).2
theorem lLA (E:List EvN):∀ (n k:Nat) (s:ShotN),(hBA E n k s).trace.length<=s.trace.length+8*n
 | 0,_,_=>Nat.le_refl _
 | n+1,k,s=>by
  rw[oFA];split
  ·omega
  ·have h1:=wYA E k s;have h2:=lLA E n (k+1) (unitN E k s);omega
theorem vHA (c:CpuN) (L:List Nat) (E:List EvN) (n:Int):(eBA c L E n).int.trace.length<=960:=by
 unfold eBA;split
 ·rename_i h;have R:n.toNat<=120:=by have:=h.2.1;have:=h.2.2.1;omega
  have:=lLA E n.toNat 0 (tBA c L);have e:(tBA c L).trace.length=0:=rfl;show (hBA E n.toNat 0 (tBA c L)).trace.length<=960;omega
 ·exact Nat.zero_le _
theorem jJA (c:CpuN) (L:List Nat) (E:List EvN) (n:Int) (hr:ramN L.length=true) (hc:c.ok) (hb:∀ i,L.getD i 0 < 256) (R:0<=n) (a8:n<=120) (hE:E.length<=16):(eBA c L E n).cpu.ok/\(eBA c L E n).mem.length=L.length:=by
 unfold eBA;rw[if_pos ⟨hr,R,a8,hE⟩];have:=cLA E hr n.toNat 0 (tBA c L) ⟨hc,hb,rfl⟩;exact⟨this.1,this.2.2⟩
theorem lYA (c:CpuN) (L:List Nat) (n:Int) (k:Int) (hr:ramN L.length=true) (hc:c.ok) (hb:∀ i,L.getD i 0 < 256) (hk:0<=k) (a6:k < n) (R:n<=120) :
  (eBA (eBA c L [] k).cpu (eBA c L [] k).mem [] (n - k)).cpu=(eBA c L [] n).cpu/\(eBA (eBA c L [] k).cpu (eBA c L [] k).mem [] (n - k)).mem=(eBA c L [] n).mem /\
  (eBA c L [] n).trace=(eBA c L [] k).trace++(eBA (eBA c L [] k).cpu (eBA c L [] k).mem [] (n - k)).trace/\(eBA (eBA c L [] k).cpu (eBA c L [] k).mem [] (n - k)).jam=(eBA c L [] n).jam:=by
 have W:=(jJA c L [] k hr hc hb hk dQ (Nat.zero_le _)).2;have e1:eBA c L [] k=runN c L [] k.toNat:=if_pos ⟨hr,hk,dQ,Nat.zero_le _⟩;have e2:eBA c L [] n=runN c L [] n.toNat:=if_pos ⟨hr,dQ,R,Nat.zero_le _⟩;have e3:eBA (eBA c L [] k).cpu (eBA c L [] k).mem [] (n - k)=runN (eBA c L [] k).cpu (eBA c L [] k).mem [] (n - k).toNat:=if_pos ⟨by rw[W];exact hr,dQ,dQ,Nat.zero_le _⟩;rw[e3,e1,e2];have h:=lGB c L k.toNat (n - k).toNat dQ;rw[show k.toNat+(n - k).toNat=n.toNat by omega] at h;obtain⟨h1,h2,h3,h4⟩:=h;exact⟨h1.symm,h2.symm,h3,h4.symm⟩
def eDA (H:Nat) (w:World) (a:Option Addr) (len:Nat) (z:List Int):Prop:=
 len<=1048576/\(0 < len->∃ b Q,a=some ⟨b,Q,none⟩/\b < H/\∀ i,i < len->w.cell? ⟨b,Q+i,none⟩=some (.int .u8 (z[i]?.getD 0))/\0<=z[i]?.getD 0/\z[i]?.getD 0<=255)
theorem eDA.kept {H:Nat} {w w':World} {a:Option Addr} {len:Nat} {z:List Int} (h:eDA H w a len z) (hb:Below H w w'):eDA H w' a len z:=by
 refine⟨h.1,fun h0=>?_⟩;obtain⟨b,Q,h1,h2,h3⟩:=h.2 h0;exact⟨b,Q,h1,h2,fun i hi=>⟨(hb.cell (p:=⟨b,Q+i,none⟩) h2).trans (h3 i hi).1,(h3 i hi).2⟩⟩
def Cur (w:World) (B:Nat) (a:Option Addr) (len cap i:Nat) (h:Int):Prop:=w.heap[B]?=some (.cells #[.slice a len cap,.int .i64 i,.int .i64 h] 109 (0,0))
theorem aJA (x m:Int) (h0:0<=m) (h1:m < 9223372036854775808):0<=bits .and .i64 x m/\bits .and .i64 x m<=m:=by
 obtain⟨k,rfl⟩:=Int.eq_ofNat_of_zero_le h0;have hk:k < 2 ^ 63:=dQ;have b7:(BitVec.ofInt 64 x &&& BitVec.ofInt 64 (k:Int)).toNat<=k:=by
  rw[BitVec.toNat_and,BitVec.ofInt_natCast,BitVec.toNat_ofNat,Nat.mod_eq_of_lt dQ];exact Nat.and_le_right
 show 0<=IntKind.i64.wrap ((BitVec.ofInt 64 x &&& BitVec.ofInt 64 (k:Int)).toNat:Int)/\IntKind.i64.wrap ((BitVec.ofInt 64 x &&& BitVec.ofInt 64 (k:Int)).toNat:Int)<=_;rw[IntKind.wrap_i64];generalize (BitVec.ofInt 64 x &&& BitVec.ofInt 64 (k:Int)).toNat=y at *;omega
def hseq (z:List Int) (len:Nat):Nat->Int
 | 0=>693693+len
 | j+1=>bits .and .i64 (hseq z len j*131+z[j]?.getD 0+7) 1073741823
theorem mUA (z:List Int) (len:Nat) (hl:len<=1048576) (j:Nat):0<=hseq z len j/\hseq z len j<=1073741823:=by
 cases j with
 | zero=>simp only[hseq];omega
 | succ j=>exact aJA _ _ dQ dQ
def pEA (z:List Int) (len:Nat):Int:=hseq z len (min len 4000)
theorem zDB (H:Nat) (a:Option Addr) (len cap:Nat) (z:List Int) (w:World) (hc:eDA H w a len z) :
  Calls Tryz.prog 30 #[.slice a len cap] w fun e w'=>e=.returned (.pointer (some ⟨w.heap.size,0,none⟩))/\w.alloc (.cells #[.slice a len cap,.int .i64 0,.int .i64 (pEA z len)] 109)=w':=by
 obtain⟨hl,hr⟩:=hc;have HR:=j_ hr;clear hr;go_enter Tryz.func30,Tryz.ntmps30;go_wp2;go_loop [3,4] (fun h i=>∃ j:Nat,j<=min len 4000/\i=.int .i64 j/\h=.int .i64 (hseq z len j)) (fun _ i=>min len 4000 - (intOf i).toNat)
 case atStart=>exact⟨0,Nat.zero_le _,rfl,rfl⟩
 case round=>
  obtain⟨j,hj,rfl,rfl⟩:=hrel;obtain⟨b6,hb1⟩:=mUA z len hl j;by_cases hp:j < min len 4000
  ·have a9:j < len:=dQ;have b4:j < 4000:=dQ;obtain⟨b,Q,rfl,hbn,hcell⟩:=HR.out dQ;obtain⟨e1,e2,e3⟩:=hcell j a9;clear hcell;go_wp2;go_round
   case rel=>exact⟨j+1,dQ,bQh,rfl⟩
   case measure=>simp[intOf];omega
  ·by_cases a9:j < len
   ·have b4:4000<=j:=dQ;have HE:=j_ (show pEA z len=hseq z len j by unfold pEA;congr 1;omega);go_wp2;go_ret;exact⟨rfl,by rw[HE.out]⟩
   ·have HE:=j_ (show pEA z len=hseq z len j by unfold pEA;congr 1;omega);go_wp2;go_ret;exact⟨rfl,by rw[HE.out]⟩
def nextH (h:Int):Int:=wrap64 (wrap64 (h*6364136223846793005)+1442695040888963407)
def mixX (h1:Int):Int:=bits BinOp.and IntKind.i64 (bits BinOp.xor IntKind.i64 (h1 / 8589934592) (h1 / 35184372088832)) 255
def byteX (z:List Int) (len i:Nat) (h:Int):Int:=if i < len then bits .and .i64 (mixX (nextH h)+z[i]?.getD 0) 255 else mixX (nextH h)
def byteI (len i:Nat):Nat:=if i < len then i+1 else i
theorem sEA (z:List Int) (len i:Nat) (h:Int):0<=byteX z len i h/\byteX z len i h<=255:=by
 unfold byteX mixX;split<;>exact aJA _ _ dQ dQ
theorem byteI_le (len i:Nat) (h:i<=len):byteI len i<=len:=by unfold byteI;split<;>omega
theorem aFA {k:IntKind} {a b:Int} (h:b=a):Ending.returned (.int k a)=.returned (.int k b):=by rw[h]
theorem fLA {w:World} {B k:Nat} {a5:Array Value} {e:TypeId} {u:Value} (h:w.heap[B]?=some (.cells a5 e (0,0))):(w.setCell ⟨B,k,none⟩ u).heap[B]?=some (.cells (a5.setIfInBounds k u) e (0,0)):=by
 obtain⟨a7,hk⟩:=Array.getElem?_eq_some_iff.1 h;show (w.heap.modify B _)[B]?=_;rw[Array.getElem?_eq_getElem (by rw[Array.size_modify];exact a7),Array.getElem_modify_self,hk];rfl
theorem kZA (H B:Nat) (a:Option Addr) (len cap i:Nat) (z:List Int) (h:Int) (w:World) (hB:H<=B) (hc:eDA H w a len z) (O:Cur w B a len cap i h) :
  Calls Tryz.prog 70 #[.pointer (some ⟨B,0,none⟩)] w fun e w'=>e=.returned (.int .i64 (byteX z len i h))/\Cur w' B a len cap (byteI len i) (nextH h)/\w.grownBy w' (some B):=by
 obtain⟨hl,hr⟩:=hc;have HR:=j_ hr;clear hr;have a7:=(Array.getElem?_eq_some_iff.1 O).1;have c0:w.cell? ⟨B,0,none⟩=some (.slice a len cap):=by simp[World.cell?,show w.heap[B]?=_ from O]
 have c1:w.cell? ⟨B,1,none⟩=some (.int .i64 i):=by simp[World.cell?,show w.heap[B]?=_ from O]
 have c2:w.cell? ⟨B,2,none⟩=some (.int .i64 h):=by simp[World.cell?,show w.heap[B]?=_ from O]
 have f1:w.frozen? ⟨B,1,none⟩=false:=by simp[World.frozen?,show w.heap[B]?=_ from O]
 have f2:w.frozen? ⟨B,2,none⟩=false:=by simp[World.frozen?,show w.heap[B]?=_ from O]
 have a3:=j_ O;clear O;go_enter Tryz.func70,Tryz.ntmps70;go_wp2;generalize hh:wrap64 (wrap64 (h*6364136223846793005)+1442695040888963407)=h1;obtain⟨T,a0⟩:∃ T,w.setCell ⟨B,2,none⟩ (.int .i64 h1)=T:=⟨_,rfl⟩;rw[a0];have K:Cur T B a len cap i h1:=by
  rw[<-a0];exact fLA a3.out
 have d0:T.cell? ⟨B,0,none⟩=some (.slice a len cap):=by simp[World.cell?,show T.heap[B]?=_ from K]
 have d1:T.cell? ⟨B,1,none⟩=some (.int .i64 i):=by simp[World.cell?,show T.heap[B]?=_ from K]
 have d2:T.cell? ⟨B,2,none⟩=some (.int .i64 h1):=by simp[World.cell?,show T.heap[B]?=_ from K]
 have g1:T.frozen? ⟨B,1,none⟩=false:=by simp[World.frozen?,show T.heap[B]?=_ from K]
 have HN:=j_ (show nextH h=h1 from hh);have a4:=j_ a0;have U:=j_ K;clear hh a0 K c0 c1 c2 f1 f2;go_quiet (fail);generalize hx:bits BinOp.and IntKind.i64 (bits BinOp.xor IntKind.i64 (h1 / 8589934592) (h1 / 35184372088832)) 255=xv;have HX:=j_ hx;have b2:=aJA (bits BinOp.xor IntKind.i64 (h1 / 8589934592) (h1 / 35184372088832)) 255 dQ dQ;rw[hx] at b2;obtain⟨b8,b9⟩:=b2;clear hx;have J:w.grownBy T (some B):=by
  rw[<-a4.out];exact⟨rfl,rfl,rfl,by simp[World.setCell],fun j _ hne=>Below.heap_setCell w _ _ j (fun e=>hne (by rw[e]))⟩
 by_cases hp:i < len
 ·obtain⟨b,Q,rfl,hbn,hcell⟩:=HR.out dQ;obtain⟨e1,e2,e3⟩:=hcell i hp;have b5:T.cell? ⟨b,Q+i,none⟩=some (.int .u8 (z[i]?.getD 0)):=by
   rw[<-a4.out,World.cell?_of_block (Below.heap_setCell w _ _ b qQ)];exact e1
  clear hcell e1;go_wp2;go_quiet (fail);go_wp2;go_quiet (fail);go_wp2;go_ret;refine⟨aFA ?_,?_,?_⟩
  ·unfold byteX mixX;rw[if_pos hp,HN.out,HX.out]
  ·have e:byteI len i=i+1:=if_pos hp;rw[e,HN.out];exact fLA (k:=1) (u:=.int .i64 ((i:Int)+1)) U.out
  ·exact⟨J.os,J.tape,J.output,by have:=J.size;simpa [World.setCell] using this,fun j hj hne=>(Below.heap_setCell T ⟨B,1,none⟩ (.int .i64 ((i:Int)+1)) j (fun e=>hne (by rw[e]))).trans (J.block j hj hne)⟩
 ·go_wp2;go_quiet (fail);go_wp2;go_ret;refine⟨aFA ?_,?_,?_⟩
  ·unfold byteX mixX;rw[if_neg hp,HN.out,HX.out]
  ·have e:byteI len i=i:=if_neg hp;rw[e,HN.out];exact U.out
  ·exact⟨J.os,J.tape,J.output,J.size,J.block⟩
def Drawn (H B:Nat) (a:Option Addr) (len cap:Nat) (z:List Int) (s:Nat×Int) (w:World):Prop:=eDA H w a len z/\Cur w B a len cap s.1 s.2/\H<=B
def nextS (len:Nat) (s:Nat×Int):Nat×Int:=(byteI len s.1,nextH s.2)
def byteV (z:List Int) (len:Nat) (s:Nat×Int):Int:=byteX z len s.1 s.2
theorem Drawn.lt {H B:Nat} {a:Option Addr} {len cap:Nat} {z:List Int} {s:Nat×Int} {w:World} (h:Drawn H B a len cap z s w):B < w.heap.size:=(Array.getElem?_eq_some_iff.1 h.2.1).1
theorem dKA {H B:Nat} {w w':World} (hg:w.grownBy w' (some B)) (h1:H<=B) (h2:B < w.heap.size):Below H w w':=
 (Below.refl H w).grown hg dQ (fun k e=>by cases e;exact h1)
theorem Drawn.below {H B:Nat} {a:Option Addr} {len cap:Nat} {z:List Int} {s:Nat×Int} {w w':World} (h:Drawn H B a len cap z s w) (hb:Below w.heap.size w w'):Drawn H B a len cap z s w':=
 ⟨h.1.kept (hb.mono (by have:=h.lt;have:=h.2.2;omega)),(hb.block B h.lt).trans h.2.1,h.2.2⟩
theorem Drawn.alloc {H B:Nat} {a:Option Addr} {len cap:Nat} {z:List Int} {s:Nat×Int} {w:World} (h:Drawn H B a len cap z s w) (o:Obj):Drawn H B a len cap z s (w.alloc o):=
 h.below ((Below.refl _ _).alloc (Nat.le_refl _) o)
theorem fAA {x y u:World} {row:Option Nat} (h:x.grownBy y row) (k:y.grownBy u row):x.grownBy u row:=
 ⟨k.os.trans h.os,k.tape.trans h.tape,k.output.trans h.output,Nat.le_trans h.size k.size,fun i hi R=>(k.block i (Nat.lt_of_lt_of_le hi h.size) R).trans (h.block i hi R)⟩
theorem oDA (H B:Nat) (a:Option Addr) (len cap:Nat) (z:List Int) (s:Nat×Int) (w:World) (h:Drawn H B a len cap z s w) :
  Calls Tryz.prog 70 #[.pointer (some ⟨B,0,none⟩)] w fun e w'=>e=.returned (.int .i64 (byteV z len s))/\Drawn H B a len cap z (nextS len s) w'/\w.grownBy w' (some B):=
 (kZA H B a len cap s.1 z s.2 w h.2.2 h.1 h.2.1).mono fun _ _ ⟨he,hc,hg⟩=>⟨he,⟨h.1.kept (dKA hg h.2.2 h.lt),hc,h.2.2⟩,hg⟩
def zAA (z:List Int) (len:Nat) (s:Nat×Int) (n:Int):Int:=
 if n<=0 then 0 else if n<=256 then byteV z len s % n
 else (byteV z len s*16777216+byteV z len (nextS len s)*65536+byteV z len (nextS len (nextS len s))*256+byteV z len (nextS len (nextS len (nextS len s)))) % n
def kBA (len:Nat) (s:Nat×Int) (n:Int):Nat×Int:=
 if n<=0 then s else if n<=256 then nextS len s else nextS len (nextS len (nextS len (nextS len s)))
theorem jDA (z:List Int) (len:Nat) (s:Nat×Int) (n:Int) (h:0 < n):0<=zAA z len s n/\zAA z len s n < n:=by
 unfold zAA;rw[if_neg dQ];split
 ·exact⟨Int.emod_nonneg _ dQ,Int.emod_lt_of_pos _ h⟩
 ·exact⟨Int.emod_nonneg _ dQ,Int.emod_lt_of_pos _ h⟩
theorem hDA (H B:Nat) (a:Option Addr) (len cap:Nat) (z:List Int) (s:Nat×Int) (n:Int) (w:World) (h:Drawn H B a len cap z s w) :
  Calls Tryz.prog 35 #[.pointer (some ⟨B,0,none⟩),.int .i64 n] w fun e w'=>e=.returned (.int .i64 (zAA z len s n))/\Drawn H B a len cap z (kBA len s n) w'/\w.grownBy w' (some B):=by
 by_cases h0:n<=0
 ·have HV:=j_ (show zAA z len s n=0 from if_pos h0);have HS:=j_ (show kBA len s n=s from if_pos h0);go_enter Tryz.func35,Tryz.ntmps35;go_wp2;go_ret;exact⟨aFA HV.out,by rw[HS.out];exact h,World.grownBy.refl _ _⟩
 ·by_cases h1:n<=256
  ·have HV:=j_ (show zAA z len s n=byteV z len s % n by unfold zAA;rw[if_neg h0,if_pos h1]);have HS:=j_ (show kBA len s n=nextS len s by unfold kBA;rw[if_neg h0,if_pos h1]);obtain⟨b0,b1⟩:=sEA z len s.1 s.2;have c0:0<=byteV z len s:=b0;have c1:byteV z len s<=255:=b1;have h2:0 < n:=dQ;have h3:(n==0)=false:=by rw[beq_eq_false_iff_ne];omega
   clear b0 b1 h0;go_enter Tryz.func35,Tryz.ntmps35;go_wp2_with fail;refine (oDA H B a len cap z s _ h).mono ?_;rintro e w1 ⟨rfl,hd1,hg1⟩;go_wp2;go_ret;exact⟨aFA HV.out,by rw[HS.out];exact hd1,hg1⟩
  ·have HV:=j_ (show zAA z len s n=(byteV z len s*16777216+byteV z len (nextS len s)*65536+byteV z len (nextS len (nextS len s))*256+byteV z len (nextS len (nextS len (nextS len s)))) % n by unfold zAA;rw[if_neg h0,if_neg h1]);have HS:=j_ (show kBA len s n=nextS len (nextS len (nextS len (nextS len s))) by unfold kBA;rw[if_neg h0,if_neg h1]);have bb:∀ t,0<=byteV z len t/\byteV z len t<=255:=fun t=>sEA z len t.1 t.2
   obtain⟨p0,p1⟩:=bb s;obtain⟨q0,q1⟩:=bb (nextS len s);obtain⟨r0,r1⟩:=bb (nextS len (nextS len s));obtain⟨t0,t1⟩:=bb (nextS len (nextS len (nextS len s)));have h2:0 < n:=dQ;have h3:(n==0)=false:=by rw[beq_eq_false_iff_ne];omega
   clear bb h0;go_enter Tryz.func35,Tryz.ntmps35;go_wp2_with fail;refine (oDA H B a len cap z s _ h).mono ?_;rintro e w1 ⟨rfl,hd1,hg1⟩;go_wp2_with fail;refine (oDA H B a len cap z _ _ hd1).mono ?_;rintro e w2 ⟨rfl,hd2,hg2⟩;go_wp2_with fail;refine (oDA H B a len cap z _ _ hd2).mono ?_;rintro e w3 ⟨rfl,hd3,hg3⟩;go_wp2_with fail;refine (oDA H B a len cap z _ _ hd3).mono ?_;rintro e w4 ⟨rfl,hd4,hg4⟩;go_wp2;go_ret;exact⟨aFA HV.out,by rw[HS.out];exact hd4,fAA (fAA (fAA hg1 hg2) hg3) hg4⟩
theorem aDA (H B:Nat) (a:Option Addr) (len cap:Nat) (z:List Int) (s:Nat×Int) (g n c:Nat) (xs:List Int) (w:World) (h:Drawn H B a len cap z s w) (R:0 < n) (a8:n<=1048576) (b3:g≠B) (hg:g < w.heap.size) (hx:∀ i,i < n->w.cell? ⟨g,i,none⟩=some (.int .i64 (xs[i]?.getD 0))) :
  Calls Tryz.prog 36 #[.pointer (some ⟨B,0,none⟩),.slice (some ⟨g,0,none⟩) n c] w fun e w'=>e=.returned (.int .i64 (xs[(zAA z len s n).toNat]?.getD 0))/\Drawn H B a len cap z (kBA len s n) w'/\w.grownBy w' (some B):=by
 obtain⟨b0,b1⟩:=jDA z len s n dQ;obtain⟨k,hk⟩:=Int.eq_ofNat_of_zero_le b0;have HX:=j_ hx;have HK:=j_ hk;have a6:k < n:=dQ;clear hx hk;go_enter Tryz.func36,Tryz.ntmps36;go_wp2_with fail;refine (hDA H B a len cap z s n _ h).mono ?_;rintro e w1 ⟨rfl,hd1,hg1⟩;have hc:w1.cell? ⟨g,k,none⟩=some (.int .i64 (xs[k]?.getD 0)):=by
  rw[World.cell?_of_block (hg1.block g hg (fun e=>b3 (by cases e;rfl)))];exact HX.out k a6
 clear b0 b1;rw[HK.out];go_wp2;go_ret;exact⟨aFA (by rw[HK.out];rfl),hd1,hg1⟩
theorem lEA (w:World) (xs:List Int) (t:TypeId):∀ i,i < xs.length->(w.alloc (.cells (xs.map (Value.int .i64)).toArray t)).cell? ⟨w.heap.size,i,none⟩=some (.int .i64 (xs[i]?.getD 0)):=by
 intro i hi;rw[World.cell?_alloc_at _ _ _ _ rfl];simp[hi]
theorem eDA.start {H:Nat} {w:World} {a:Option Addr} {len cap:Nat} {z:List Int} (hc:eDA H w a len z) (R:H<=w.heap.size) :
  Drawn H w.heap.size a len cap z (0,pEA z len) (w.alloc (.cells #[.slice a len cap,.int .i64 0,.int .i64 (pEA z len)] 109)):=
 ⟨hc.kept ((Below.refl _ _).alloc R _),World.alloc_heap_new w _,R⟩
theorem nAA {w w':World} {row:Option Nat} (h:Below w.heap.size w w'):w.grownBy w' row:=
 ⟨h.os,h.tape,h.output,h.size,fun i hi _=>h.block i hi⟩
theorem gCA {x y:World} {row:Option Nat} (h:x.grownBy y row) {p:Addr} (hp:x.heap.size<=p.block) (v:Value):x.grownBy (y.setCell p v) row:=
 ⟨h.os,h.tape,h.output,by simpa [World.setCell] using h.size,fun i hi R=>(Below.heap_setCell y p v i dQ).trans (h.block i hi R)⟩
theorem Drawn.setCell {H B:Nat} {a:Option Addr} {len cap:Nat} {z:List Int} {s:Nat×Int} {w:World} (h:Drawn H B a len cap z s w) {p:Addr} (hp:B < p.block) (v:Value):Drawn H B a len cap z s (w.setCell p v):=
 ⟨h.1.kept ((Below.refl _ _).setCell (by have:=h.2.2;omega) v),(Below.heap_setCell w p v B dQ).trans h.2.1,h.2.2⟩
theorem mEA (H B:Nat) (a:Option Addr) (len cap:Nat) (z:List Int) (s:Nat×Int) (n:Int) (w:World) (h:Drawn H B a len cap z s w) :
  Calls Tryz.prog 32 #[.pointer (some ⟨B,0,none⟩),.int .i64 n] w fun e w'=>e=.returned (.bool (zAA z len s n==0))/\Drawn H B a len cap z (kBA len s n) w'/\w.grownBy w' (some B):=by
 go_enter Tryz.func32,Tryz.ntmps32;go_wp2_with fail;refine (hDA H B a len cap z s n _ h).mono ?_;rintro e w1 ⟨rfl,hd1,hg1⟩;go_wp2;go_ret;exact⟨rfl,hd1,hg1⟩
def byteL:List Int:=[0,1,9,16,127,128,153,255,154,80]
def b2V (z:List Int) (len:Nat) (s:Nat×Int):Int:=if zAA z len s 2=0 then byteL[(zAA z len (kBA len s 2) 10).toNat]?.getD 0 else byteV z len (kBA len s 2)
def b2S (z:List Int) (len:Nat) (s:Nat×Int):Nat×Int:=if zAA z len s 2=0 then kBA len (kBA len s 2) 10 else nextS len (kBA len s 2)
theorem xNA (i:Nat):0<=byteL[i]?.getD 0/\byteL[i]?.getD 0<=255:=by
 cases hq:byteL[i]? with
 | none=>simp
 | some y=>
  have W:=List.mem_of_getElem? hq;simp only[byteL,List.mem_cons,List.not_mem_nil,or_false] at W;simp only[Option.getD_some];omega
theorem cXA (z:List Int) (len:Nat) (s:Nat×Int):0<=b2V z len s/\b2V z len s<=255:=by
 unfold b2V;split
 ·exact xNA _
 ·exact sEA z len _ _
theorem kQA (H B:Nat) (a:Option Addr) (len cap:Nat) (z:List Int) (s:Nat×Int) (w:World) (h:Drawn H B a len cap z s w) :
  Calls Tryz.prog 96 #[.pointer (some ⟨B,0,none⟩)] w fun e w'=>e=.returned (.int .u8 (b2V z len s))/\Drawn H B a len cap z (b2S z len s) w'/\w.grownBy w' (some B):=by
 by_cases h0:zAA z len s 2=0
 ·have HV:=j_ (show b2V z len s=byteL[(zAA z len (kBA len s 2) 10).toNat]?.getD 0 from if_pos h0);have HS:=j_ (show b2S z len s=kBA len (kBA len s 2) 10 from if_pos h0);have h1:(zAA z len s 2==0)=true:=by rw[h0];rfl
  obtain⟨q0,q1⟩:=xNA (zAA z len (kBA len s 2) 10).toNat
  clear h0;go_enter Tryz.func96,Tryz.ntmps96;go_wp2_with fail;refine (mEA H B a len cap z s 2 _ h).mono ?_;rintro e w1 ⟨rfl,hd1,hg1⟩;rw[h1];clear h1;go_wp2_with fail;have a1:=lEA w1 byteL 3;refine (aDA H B a len cap z (kBA len s 2) w1.heap.size 10 10 byteL _ (hd1.alloc _) dQ dQ (by have:=hd1.lt;omega) yQ (fun i hi=>a1 i hi)).mono ?_;rintro e w2 ⟨rfl,hd2,hg2⟩;go_wp2;go_ret;refine⟨aFA HV.out,by rw[HS.out];exact hd2,?_⟩;exact fAA hg1 (fAA (World.grownBy_alloc w1 _ (some B)) hg2)
 ·have HV:=j_ (show b2V z len s=byteV z len (kBA len s 2) from if_neg h0);have HS:=j_ (show b2S z len s=nextS len (kBA len s 2) from if_neg h0);have h1:(zAA z len s 2==0)=false:=by rw[beq_eq_false_iff_ne];exact h0
  obtain⟨q0,q1⟩:=sEA z len (kBA len s 2).1 (kBA len s 2).2;have c0:0<=byteV z len (kBA len s 2):=q0;have c1:byteV z len (kBA len s 2)<=255:=q1;clear h0 q0 q1;go_enter Tryz.func96,Tryz.ntmps96;go_wp2_with fail;refine (mEA H B a len cap z s 2 _ h).mono ?_;rintro e w1 ⟨rfl,hd1,hg1⟩;rw[h1];clear h1;go_wp2_with fail;refine (oDA H B a len cap z _ _ hd1).mono ?_;rintro e w2 ⟨rfl,hd2,hg2⟩;go_wp2;go_ret;exact⟨aFA HV.out,by rw[HS.out];exact hd2,fAA hg1 hg2⟩
def eZA (H B:Nat) (a:Option Addr) (len cap:Nat) (z:List Int) (w:World) (e:Ending) (w':World):Prop:=
 ∃ (x:Int) (s:Nat×Int),0<=x/\x<=255/\e=.returned (.int .u8 x)/\Drawn H B a len cap z s w'/\w.grownBy w' (some B)
theorem aGA (H B:Nat) (a:Option Addr) (len cap:Nat) (z:List Int) (s:Nat×Int) (w:World) (h:Drawn H B a len cap z s w) :
  Calls Tryz.prog 96 #[.pointer (some ⟨B,0,none⟩)] w (eZA H B a len cap z w):=
 (kQA H B a len cap z s w h).mono fun _ _ ⟨he,hd,hg⟩=>⟨_,_,(cXA z len s).1,(cXA z len s).2,he,hd,hg⟩
theorem eDA.startS {H:Nat} {w:World} {a:Option Addr} {len cap:Nat} {z:List Int} (hc:eDA H w a len z) (R:H<=w.heap.size) :
  Drawn H w.heap.size a len cap z (0,pEA z len) (w.alloc (.cells #[.slice a len cap,.int .i64 0,.int .i64 (pEA z len)] 109)):=
 ⟨hc.kept ((Below.refl _ _).alloc R _),World.alloc_heap_new w _,R⟩
def Three (w:World) (a:Option Addr) (n x0 x1 x2:Nat):Prop:=
 n=0\/∃ g o,a=some ⟨g,o,none⟩/\g < w.heap.size/\w.cell? ⟨g,o,none⟩=some (.int .u8 x0)/\(2<=n->w.cell? ⟨g,o+1,none⟩=some (.int .u8 x1))/\(3<=n->w.cell? ⟨g,o+2,none⟩=some (.int .u8 x2))
def cut (p:UInt8->Bool):List UInt8->List (List UInt8)
 | []=>[[]]
 | c :: r=>if p c then [] :: cut p r else match cut p r with
  | []=>[[c]]
  | x :: xs=>(c :: x) :: xs
def NoGap (p:UInt8->Bool) (l:List UInt8) (b k:Nat):Prop:=∀ j,b<=j->j < k->p (l.getD j 0)=false
theorem NoGap.mem {p:UInt8->Bool} {l:List UInt8} {b k:Nat} (h:NoGap p l b k) (hk:k<=l.length):∀ d ∈ (l.drop b).take (k - b),p d=false:=by
 intro d hd;obtain⟨i,hi,rfl⟩:=List.mem_iff_getElem.1 hd;simp at hi;have:=h (b+i) dQ dQ;rw[List.getElem_take,List.getElem_drop];have e:l.getD (b+i) 0=l[b+i]' dQ:=by simp[List.getD,show b+i < l.length by omega]
 rw[e] at this;exact this
theorem NoGap.nil (p:UInt8->Bool) (l:List UInt8) (b:Nat):NoGap p l b b:=fun j h1 h2=>dQ
theorem NoGap.step {p:UInt8->Bool} {l:List UInt8} {b k:Nat} (h:NoGap p l b k) (m:Nat) (W:∀ j,k<=j->j < m->p (l.getD j 0)=false):NoGap p l b m:=fun j h1 h2=>by
 by_cases hj:j < k
 ·exact h j h1 hj
 ·exact W j dQ h2

end Go.Proofs.YtckfdbjjjgfbfaaGreat
