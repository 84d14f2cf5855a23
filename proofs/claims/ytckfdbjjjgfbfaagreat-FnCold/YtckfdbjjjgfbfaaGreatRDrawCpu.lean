import Derived.Test.YtckfdbjjjgfbfaaGreatRPhr
import Derived.Test.YtckfdbjjjgfbfaaGreatRCells
import Derived.Test.YtckfdbjjjgfbfaaGreatRStepD
import Derived.Test.YtckfdbjjjgfbfaaGreatRRowG
import Derived.Test.YtckfdbjjjgfbfaaGreatRRunA
import Derived.Test.YtckfdbjjjgfbfaaGreatRRamQ
import Derived.Deep.RegionHeld3
import Derived.Deep.DeepCutAuto
import Derived.Test.YtckfdbjjjgfbfaaGreatRows
import Derived.WalkKit
import Derived.WalkSpells
import Derived.WalkLawsBesides
import Derived.OwnWalk
import Derived.Lib.Hide
import Derived.Below
import Derived.WalkSmall
import Derived.Laws.BitsAllLaws
import Derived.Laws.BitsLemmas
import Derived.Laws.Pointers
import Derived.Deep.QuietTactic
import Derived.BigQuiet
import Derived.Deep.Draws
import Derived.RangeFuncBox
import Derived.Deep.RegionWith
import Derived.Test.YtckfdbjjjgfbfaaGreatRRegStep
import Derived.Test.YtckfdbjjjgfbfaaGreatROpC
import Derived.Test.YtckfdbjjjgfbfaaGreatRAluA
import Derived.Laws.Concat
import Derived.Laws.MakeOwn
import Derived.Laws.BytesArg
import Derived.Laws.RangeAny
import Derived.Test.YtckfdbjjjgfbfaaGreatRAluC
set_option linter.unusedVariables false
set_option linter.unusedSimpArgs false
set_option maxRecDepth 100000
set_option maxHeartbeats 1600000
namespace Go.Proofs.YtckfdbjjjgfbfaaGreat
open Go.RowKit
theorem lCB {x y:Nat} (hx:x < 256) (hy:y < 256):bits .or .u16 ((y:Int)*256) (x:Int)=((x+256*y:Nat):Int):=by
 have e1:(BitVec.ofInt 16 ((y:Int)*256)).toNat=2 ^ 8*y:=bQh;have e2:(BitVec.ofInt 16 (x:Int)).toNat=x:=bQh;have key:(BitVec.ofInt 16 ((y:Int)*256) ||| BitVec.ofInt 16 (x:Int)).toNat=2 ^ 8*y+x:=by
  rw[BitVec.toNat_or,e1,e2,Nat.two_pow_add_eq_or_of_lt dQ]
 show IntKind.u16.wrap ((BitVec.ofInt 16 ((y:Int)*256) ||| BitVec.ofInt 16 (x:Int)).toNat:Nat)=_;rw[key];simp only[IntKind.wrap,IntKind.bits,IntKind.signed];simp;omega
theorem jSA (x y:Nat) (hx:x < 256) (hy:y < 256) (w:World) :
  Calls Tryz.prog 45 #[.int .u8 x,.int .u8 y] w fun e w'=>e=.returned (.int .u16 ((x+256*y:Nat):Int))/\w=w':=by
 go_enter Tryz.func45,Tryz.ntmps45;go_wp2;go_ret;exact⟨congrArg (fun v=>Ending.returned (Value.int .u16 v)) (lCB hx hy),rfl⟩
abbrev dSA:Array Value:=(zQ []).toArray
def coldN (L:List Nat):CpuN:=if ramN L.length=true then ⟨0,0,0,253,peekL L 65532+256*peekL L 65533,false,false,false,true,false,false⟩ else cpu0
theorem lFB {L:List Nat} {w:World} {a:Option Addr} (h:RowB w a L):(coldN L).ok:=by
 unfold coldN;split
 ·have h1:=lDA h 65532;have h2:=lDA h 65533;exact⟨by show 0 < 256;decide,by show 0 < 256;decide,by show 0 < 256;decide,by show 253 < 256;decide,by show peekL L 65532+256*peekL L 65533 < 65536;omega⟩
 ·exact zMA
theorem aKA (a:Option Addr) (cap:Nat) (L:List Nat) (w:World) (hr:RowB w a L) :
  Calls Tryz.prog 15 #[ramV (.slice a L.length cap)] w fun e w'=>e=.returned (cpuV (coldN L))/\Below w.heap.size w w':=by
 have HO:=fun w=>cEA a L.length cap w
 have p1:=BoxN.new w 30 #[.slice a L.length cap];have p2:=BoxN.new (w.alloc (.cells #[.slice a L.length cap] 30)) 28 dSA;rw[World.size_alloc] at p2;replace p1:=p1.below (alw _ (.cells dSA 28));have b0:=bstep (alw w (.cells #[.slice a L.length cap] 30)) (alw _ (.cells dSA 28));cases h:ramN L.length with
 | false=>
  have e:coldN L=cpu0:=by unfold coldN;rw[if_neg (by rw[h];exact Bool.false_ne_true)]
  rw[e];rw[h] at HO;clear e h;go_enter Tryz.func15,Tryz.ntmps15;have c1:=p1.cell 0 _ rfl;go_wp2_with fail;refine (HO _).mono ?_;rintro e w1 ⟨rfl,R⟩;have q2:=p2.below R;have q1:=p1.below R;obtain⟨h0,h1,h2,h3,h4,h5,h6,h7,h8,h9,h10,f1⟩:=eleven q2;have n0:=q1.lt;have n1:=q2.lt;have b1:=bstep b0 R;have B0:=hQ b1;clear p1 p2 c1 q1 q2 R b0 b1;go_wp2;refine bodyPost_ret (v:=cpuV cpu0) (by simp[results,Tryz.results15,go_sem,h0,h1,h2,h3,h4,h5,h6,h7,h8,h9,h10,cpu0,n0,n1]) rfl ⟨rfl,?_⟩;have hW:=B0.out;all_goals exact aQ
 | true=>
  have l1:=lDA hr 65532;have l2:=lDA hr 65533;have d6:=fun W (h:RowB W a L)=>wDA a cap 65532 L iQ W h
  have d3:=fun W (h:RowB W a L)=>wDA a cap 65533 L iQ W h
  have e:coldN L=⟨0,0,0,253,peekL L 65532+256*peekL L 65533,false,false,false,true,false,false⟩:=by unfold coldN;rw[if_pos h]
  rw[e];rw[h] at HO;clear e h;obtain⟨x,hx⟩:∃ x,peekL L 65532=x:=⟨_,rfl⟩;obtain⟨y,hy⟩:∃ x,peekL L 65533=x:=⟨_,rfl⟩;rw[hx] at d6 l1;rw[hy] at d3 l2;rw[hx,hy];obtain⟨z,hz⟩:∃ z,x+256*y=z:=⟨_,rfl⟩;rw[hz];have HZ:=hQ hz;have zb:z < 65536:=dQ;have HR:=hQ hr;clear hx hy hz hr;go_enter Tryz.func15,Tryz.ntmps15;have c1:=p1.cell 0 _ rfl;go_wp2_with fail;refine (HO _).mono ?_;rintro e w1 ⟨rfl,R⟩;replace p2:=p2.below R;replace p1:=p1.below R;replace b0:=bstep b0 R;clear c1 R HO;have c1:=p1.cell 0 _ rfl;go_wp2_with fail;refine (d6 _ (HR.out.below b0)).mono ?_;rintro e w2 ⟨rfl,R⟩;replace p2:=p2.below R;replace p1:=p1.below R;replace b0:=bstep b0 R;clear c1 R;have c1:=p1.cell 0 _ rfl;go_wp2_with fail;refine (d3 _ (HR.out.below b0)).mono ?_;rintro e w3 ⟨rfl,R⟩;replace p2:=p2.below R;replace p1:=p1.below R;replace b0:=bstep b0 R;clear c1 R;go_wp2_with fail;refine (jSA x y l1 l2 _).mono ?_;rintro e w4 ⟨rfl,rfl⟩;rw[HZ.out];obtain⟨h0,h1,h2,h3,h4,h5,h6,h7,h8,h9,h10,f1⟩:=eleven p2;have n0:=p1.lt;have n1:=p2.lt;have B0:=hQ b0;clear p1 p2 b0;go_wp2;refine bodyPost_ret (v:=cpuV ⟨0,0,0,253,z,false,false,false,true,false,false⟩) (by simp[results,Tryz.results15,go_sem,h0,h1,h2,h3,h4,h5,h6,h7,h8,h9,h10,n0,n1]) rfl ⟨rfl,?_⟩;have hW:=B0.out;all_goals exact aQ
def uDA (E:Nat) (w:World) (a:Option Addr) (len:Nat) (z:List Int):Prop:=
 len<=1048576/\(0 < len->∃ b a1,a=some ⟨b,a1,none⟩/\b < E/\∀ i,i < len->w.cell? ⟨b,a1+i,none⟩=some (.int .u8 (z[i]?.getD 0))/\0<=z[i]?.getD 0/\z[i]?.getD 0<=255)
theorem uDA.kept {E:Nat} {w w':World} {a:Option Addr} {len:Nat} {z:List Int} (h:uDA E w a len z) (hb:Below E w w'):uDA E w' a len z:=by
 refine⟨h.1,fun h0=>?_⟩;obtain⟨b,a1,h1,h2,h3⟩:=h.2 h0;exact⟨b,a1,h1,h2,fun i hi=>⟨(hb.cell (p:=⟨b,a1+i,none⟩) h2).trans (h3 i hi).1,(h3 i hi).2⟩⟩
def Cur (w:World) (B:Nat) (a:Option Addr) (len cap i:Nat) (h:Int):Prop:=w.heap[B]?=some (.cells #[.slice a len cap,.int .i64 i,.int .i64 h] 109 (0,0))
theorem cKA (x m:Int) (h0:0<=m) (h1:m < 9223372036854775808):0<=bits .and .i64 x m/\bits .and .i64 x m<=m:=by
 obtain⟨k,rfl⟩:=Int.eq_ofNat_of_zero_le h0;have hk:k < 2 ^ 63:=dQ;have j6:(BitVec.ofInt 64 x &&& BitVec.ofInt 64 (k:Int)).toNat<=k:=by
  rw[BitVec.toNat_and,BitVec.ofInt_natCast,BitVec.toNat_ofNat,Nat.mod_eq_of_lt dQ];exact Nat.and_le_right
 show 0<=IntKind.i64.wrap ((BitVec.ofInt 64 x &&& BitVec.ofInt 64 (k:Int)).toNat:Int)/\IntKind.i64.wrap ((BitVec.ofInt 64 x &&& BitVec.ofInt 64 (k:Int)).toNat:Int)<=_;rw[IntKind.wrap_i64];generalize (BitVec.ofInt 64 x &&& BitVec.ofInt 64 (k:Int)).toNat=y at *;omega
def hseq (z:List Int) (len:Nat):Nat->Int
 | 0=>693693+len
 | j+1=>bits .and .i64 (hseq z len j*131+z[j]?.getD 0+7) 1073741823
theorem oYA (z:List Int) (len:Nat) (hl:len<=1048576) (j:Nat):0<=hseq z len j/\hseq z len j<=1073741823:=by
 cases j with
 | zero=>simp only[hseq];omega
 | succ j=>exact cKA _ _ dQ dQ
def uEA (z:List Int) (len:Nat):Int:=hseq z len (min len 4000)
theorem fGB (E:Nat) (a:Option Addr) (len cap:Nat) (z:List Int) (w:World) (hc:uDA E w a len z) :
  Calls Tryz.prog 30 #[.slice a len cap] w fun e w'=>e=.returned (.pointer (some ⟨w.heap.size,0,none⟩))/\w.alloc (.cells #[.slice a len cap,.int .i64 0,.int .i64 (uEA z len)] 109)=w':=by
 obtain⟨hl,hr⟩:=hc;have HR:=hQ hr;clear hr;go_enter Tryz.func30,Tryz.ntmps30;go_wp2;go_loop [3,4] (fun h i=>∃ j:Nat,j<=min len 4000/\i=.int .i64 j/\h=.int .i64 (hseq z len j)) (fun _ i=>min len 4000 - (intOf i).toNat)
 case atStart=>exact⟨0,Nat.zero_le _,rfl,rfl⟩
 case round=>
  obtain⟨j,hj,rfl,rfl⟩:=hrel;obtain⟨j7,hb1⟩:=oYA z len hl j;by_cases hp:j < min len 4000
  ·have d8:j < len:=dQ;have j1:j < 4000:=dQ;obtain⟨b,a1,rfl,hbn,hcell⟩:=HR.out dQ;obtain⟨e1,e2,e3⟩:=hcell j d8;clear hcell;go_wp2;go_round
   case rel=>exact⟨j+1,dQ,bQe,rfl⟩
   case measure=>simp[intOf];omega
  ·by_cases d8:j < len
   ·have j1:4000<=j:=dQ;have HE:=hQ (show uEA z len=hseq z len j by unfold uEA;congr 1;omega);go_wp2;go_ret;exact⟨rfl,by rw[HE.out]⟩
   ·have HE:=hQ (show uEA z len=hseq z len j by unfold uEA;congr 1;omega);go_wp2;go_ret;exact⟨rfl,by rw[HE.out]⟩
def nextH (h:Int):Int:=wrap64 (wrap64 (h*6364136223846793005)+1442695040888963407)
def mixX (h1:Int):Int:=bits BinOp.and IntKind.i64 (bits BinOp.xor IntKind.i64 (h1 / 8589934592) (h1 / 35184372088832)) 255
def byteX (z:List Int) (len i:Nat) (h:Int):Int:=if i < len then bits .and .i64 (mixX (nextH h)+z[i]?.getD 0) 255 else mixX (nextH h)
def byteI (len i:Nat):Nat:=if i < len then i+1 else i
theorem qFA (z:List Int) (len i:Nat) (h:Int):0<=byteX z len i h/\byteX z len i h<=255:=by
 unfold byteX mixX;split<;>exact cKA _ _ dQ dQ
theorem byteI_le (len i:Nat) (h:i<=len):byteI len i<=len:=by unfold byteI;split<;>omega
theorem eFA {k:IntKind} {a b:Int} (h:b=a):Ending.returned (.int k a)=.returned (.int k b):=by rw[h]
theorem pMA {w:World} {B k:Nat} {d7:Array Value} {e:TypeId} {u:Value} (h:w.heap[B]?=some (.cells d7 e (0,0))):(w.setCell ⟨B,k,none⟩ u).heap[B]?=some (.cells (d7.setIfInBounds k u) e (0,0)):=by
 obtain⟨a8,hk⟩:=Array.getElem?_eq_some_iff.1 h;show (w.heap.modify B _)[B]?=_;rw[Array.getElem?_eq_getElem (by rw[Array.size_modify];exact a8),Array.getElem_modify_self,hk];rfl
theorem iDB (E B:Nat) (a:Option Addr) (len cap i:Nat) (z:List Int) (h:Int) (w:World) (hB:E<=B) (hc:uDA E w a len z) (O:Cur w B a len cap i h) :
  Calls Tryz.prog 70 #[.pointer (some ⟨B,0,none⟩)] w fun e w'=>e=.returned (.int .i64 (byteX z len i h))/\Cur w' B a len cap (byteI len i) (nextH h)/\w.grownBy w' (some B):=by
 obtain⟨hl,hr⟩:=hc;have HR:=hQ hr;clear hr;have a8:=(Array.getElem?_eq_some_iff.1 O).1;have c0:w.cell? ⟨B,0,none⟩=some (.slice a len cap):=by simp[World.cell?,show w.heap[B]?=_ from O]
 have c1:w.cell? ⟨B,1,none⟩=some (.int .i64 i):=by simp[World.cell?,show w.heap[B]?=_ from O]
 have c2:w.cell? ⟨B,2,none⟩=some (.int .i64 h):=by simp[World.cell?,show w.heap[B]?=_ from O]
 have f1:w.frozen? ⟨B,1,none⟩=false:=by simp[World.frozen?,show w.heap[B]?=_ from O]
 have f2:w.frozen? ⟨B,2,none⟩=false:=by simp[World.frozen?,show w.heap[B]?=_ from O]
 have d9:=hQ O;clear O;go_enter Tryz.func70,Tryz.ntmps70;go_wp2;generalize hh:wrap64 (wrap64 (h*6364136223846793005)+1442695040888963407)=h1;obtain⟨W1,b6⟩:∃ W1,w.setCell ⟨B,2,none⟩ (.int .i64 h1)=W1:=⟨_,rfl⟩;rw[b6];have K:Cur W1 B a len cap i h1:=by
  rw[<-b6];exact pMA d9.out
 have d0:W1.cell? ⟨B,0,none⟩=some (.slice a len cap):=by simp[World.cell?,show W1.heap[B]?=_ from K]
 have R:W1.cell? ⟨B,1,none⟩=some (.int .i64 i):=by simp[World.cell?,show W1.heap[B]?=_ from K]
 have d2:W1.cell? ⟨B,2,none⟩=some (.int .i64 h1):=by simp[World.cell?,show W1.heap[B]?=_ from K]
 have g1:W1.frozen? ⟨B,1,none⟩=false:=by simp[World.frozen?,show W1.heap[B]?=_ from K]
 have HN:=hQ (show nextH h=h1 from hh);have d4:=hQ b6;have a3:=hQ K;clear hh b6 K c0 c1 c2 f1 f2;go_quiet (fail);generalize hx:bits BinOp.and IntKind.i64 (bits BinOp.xor IntKind.i64 (h1 / 8589934592) (h1 / 35184372088832)) 255=xv;have HX:=hQ hx;have e0:=cKA (bits BinOp.xor IntKind.i64 (h1 / 8589934592) (h1 / 35184372088832)) 255 dQ dQ;rw[hx] at e0;obtain⟨j4,k4⟩:=e0;clear hx;have H:w.grownBy W1 (some B):=by
  rw[<-d4.out];exact⟨rfl,rfl,rfl,by simp[World.setCell],fun j _ hne=>Below.heap_setCell w _ _ j (fun e=>hne (by rw[e]))⟩
 by_cases hp:i < len
 ·obtain⟨b,a1,rfl,hbn,hcell⟩:=HR.out dQ;obtain⟨e1,e2,e3⟩:=hcell i hp;have k1:W1.cell? ⟨b,a1+i,none⟩=some (.int .u8 (z[i]?.getD 0)):=by
   rw[<-d4.out,World.cell?_of_block (Below.heap_setCell w _ _ b qQ)];exact e1
  clear hcell e1;go_wp2;go_quiet (fail);go_wp2;go_quiet (fail);go_wp2;go_ret;refine⟨eFA ?_,?_,?_⟩
  ·unfold byteX mixX;rw[if_pos hp,HN.out,HX.out]
  ·have e:byteI len i=i+1:=if_pos hp;rw[e,HN.out];exact pMA (k:=1) (u:=.int .i64 ((i:Int)+1)) a3.out
  ·exact⟨H.os,H.tape,H.output,by have:=H.size;simpa [World.setCell] using this,fun j hj hne=>(Below.heap_setCell W1 ⟨B,1,none⟩ (.int .i64 ((i:Int)+1)) j (fun e=>hne (by rw[e]))).trans (H.block j hj hne)⟩
 ·go_wp2;go_quiet (fail);go_wp2;go_ret;refine⟨eFA ?_,?_,?_⟩
  ·unfold byteX mixX;rw[if_neg hp,HN.out,HX.out]
  ·have e:byteI len i=i:=if_neg hp;rw[e,HN.out];exact a3.out
  ·exact⟨H.os,H.tape,H.output,H.size,H.block⟩
def Drawn (E B:Nat) (a:Option Addr) (len cap:Nat) (z:List Int) (s:Nat×Int) (w:World):Prop:=uDA E w a len z/\Cur w B a len cap s.1 s.2/\E<=B
def nextS (len:Nat) (s:Nat×Int):Nat×Int:=(byteI len s.1,nextH s.2)
def byteV (z:List Int) (len:Nat) (s:Nat×Int):Int:=byteX z len s.1 s.2
theorem Drawn.lt {E B:Nat} {a:Option Addr} {len cap:Nat} {z:List Int} {s:Nat×Int} {w:World} (h:Drawn E B a len cap z s w):B < w.heap.size:=(Array.getElem?_eq_some_iff.1 h.2.1).1
theorem jLA {E B:Nat} {w w':World} (J:w.grownBy w' (some B)) (h1:E<=B) (h2:B < w.heap.size):Below E w w':=
 (Below.refl E w).grown J dQ (fun k e=>by cases e;exact h1)
theorem Drawn.below {E B:Nat} {a:Option Addr} {len cap:Nat} {z:List Int} {s:Nat×Int} {w w':World} (h:Drawn E B a len cap z s w) (hb:Below w.heap.size w w'):Drawn E B a len cap z s w':=
 ⟨h.1.kept (hb.mono (by have:=h.lt;have:=h.2.2;omega)),(hb.block B h.lt).trans h.2.1,h.2.2⟩
theorem Drawn.alloc {E B:Nat} {a:Option Addr} {len cap:Nat} {z:List Int} {s:Nat×Int} {w:World} (h:Drawn E B a len cap z s w) (o:Obj):Drawn E B a len cap z s (w.alloc o):=
 h.below ((Below.refl _ _).alloc (Nat.le_refl _) o)
theorem sAA {x y u:World} {row:Option Nat} (h:x.grownBy y row) (k:y.grownBy u row):x.grownBy u row:=
 ⟨k.os.trans h.os,k.tape.trans h.tape,k.output.trans h.output,Nat.le_trans h.size k.size,fun i hi hn=>(k.block i (Nat.lt_of_lt_of_le hi h.size) hn).trans (h.block i hi hn)⟩
theorem dEA (E B:Nat) (a:Option Addr) (len cap:Nat) (z:List Int) (s:Nat×Int) (w:World) (h:Drawn E B a len cap z s w) :
  Calls Tryz.prog 70 #[.pointer (some ⟨B,0,none⟩)] w fun e w'=>e=.returned (.int .i64 (byteV z len s))/\Drawn E B a len cap z (nextS len s) w'/\w.grownBy w' (some B):=
 (iDB E B a len cap s.1 z s.2 w h.2.2 h.1 h.2.1).mono fun _ _ ⟨he,hc,J⟩=>⟨he,⟨h.1.kept (jLA J h.2.2 h.lt),hc,h.2.2⟩,J⟩
def bCA (z:List Int) (len:Nat) (s:Nat×Int) (n:Int):Int:=
 if n<=0 then 0 else if n<=256 then byteV z len s % n
 else (byteV z len s*16777216+byteV z len (nextS len s)*65536+byteV z len (nextS len (nextS len s))*256+byteV z len (nextS len (nextS len (nextS len s)))) % n
def oBA (len:Nat) (s:Nat×Int) (n:Int):Nat×Int:=
 if n<=0 then s else if n<=256 then nextS len s else nextS len (nextS len (nextS len (nextS len s)))
theorem kHA (z:List Int) (len:Nat) (s:Nat×Int) (n:Int) (h:0 < n):0<=bCA z len s n/\bCA z len s n < n:=by
 unfold bCA;rw[if_neg dQ];split
 ·exact⟨Int.emod_nonneg _ dQ,Int.emod_lt_of_pos _ h⟩
 ·exact⟨Int.emod_nonneg _ dQ,Int.emod_lt_of_pos _ h⟩
theorem bIA (E B:Nat) (a:Option Addr) (len cap:Nat) (z:List Int) (s:Nat×Int) (n:Int) (w:World) (h:Drawn E B a len cap z s w) :
  Calls Tryz.prog 35 #[.pointer (some ⟨B,0,none⟩),.int .i64 n] w fun e w'=>e=.returned (.int .i64 (bCA z len s n))/\Drawn E B a len cap z (oBA len s n) w'/\w.grownBy w' (some B):=by
 by_cases h0:n<=0
 ·have HV:=hQ (show bCA z len s n=0 from if_pos h0);have HS:=hQ (show oBA len s n=s from if_pos h0);go_enter Tryz.func35,Tryz.ntmps35;go_wp2;go_ret;exact⟨eFA HV.out,by rw[HS.out];exact h,World.grownBy.refl _ _⟩
 ·by_cases h1:n<=256
  ·have HV:=hQ (show bCA z len s n=byteV z len s % n by unfold bCA;rw[if_neg h0,if_pos h1]);have HS:=hQ (show oBA len s n=nextS len s by unfold oBA;rw[if_neg h0,if_pos h1]);obtain⟨b0,b1⟩:=qFA z len s.1 s.2;have c0:0<=byteV z len s:=b0;have c1:byteV z len s<=255:=b1;have h2:0 < n:=dQ;have h3:(n==0)=false:=by rw[beq_eq_false_iff_ne];omega
   clear b0 b1 h0;go_enter Tryz.func35,Tryz.ntmps35;go_wp2_with fail;refine (dEA E B a len cap z s _ h).mono ?_;rintro e w1 ⟨rfl,hd1,hg1⟩;go_wp2;go_ret;exact⟨eFA HV.out,by rw[HS.out];exact hd1,hg1⟩
  ·have HV:=hQ (show bCA z len s n=(byteV z len s*16777216+byteV z len (nextS len s)*65536+byteV z len (nextS len (nextS len s))*256+byteV z len (nextS len (nextS len (nextS len s)))) % n by unfold bCA;rw[if_neg h0,if_neg h1]);have HS:=hQ (show oBA len s n=nextS len (nextS len (nextS len (nextS len s))) by unfold oBA;rw[if_neg h0,if_neg h1]);have bb:∀ t,0<=byteV z len t/\byteV z len t<=255:=fun t=>qFA z len t.1 t.2
   obtain⟨p0,p1⟩:=bb s;obtain⟨q0,q1⟩:=bb (nextS len s);obtain⟨r0,r1⟩:=bb (nextS len (nextS len s));obtain⟨t0,t1⟩:=bb (nextS len (nextS len (nextS len s)));have h2:0 < n:=dQ;have h3:(n==0)=false:=by rw[beq_eq_false_iff_ne];omega
   clear bb h0;go_enter Tryz.func35,Tryz.ntmps35;go_wp2_with fail;refine (dEA E B a len cap z s _ h).mono ?_;rintro e w1 ⟨rfl,hd1,hg1⟩;go_wp2_with fail;refine (dEA E B a len cap z _ _ hd1).mono ?_;rintro e w2 ⟨rfl,U,hg2⟩;go_wp2_with fail;refine (dEA E B a len cap z _ _ U).mono ?_;rintro e w3 ⟨rfl,hd3,hg3⟩;go_wp2_with fail;refine (dEA E B a len cap z _ _ hd3).mono ?_;rintro e w4 ⟨rfl,a2,hg4⟩;go_wp2;go_ret;exact⟨eFA HV.out,by rw[HS.out];exact a2,sAA (sAA (sAA hg1 hg2) hg3) hg4⟩
theorem xGA (E B:Nat) (a:Option Addr) (len cap:Nat) (z:List Int) (s:Nat×Int) (g n c:Nat) (xs:List Int) (w:World) (h:Drawn E B a len cap z s w) (hn:0 < n) (k2:n<=1048576) (i6:g≠B) (J:g < w.heap.size) (hx:∀ i,i < n->w.cell? ⟨g,i,none⟩=some (.int .i64 (xs[i]?.getD 0))) :
  Calls Tryz.prog 36 #[.pointer (some ⟨B,0,none⟩),.slice (some ⟨g,0,none⟩) n c] w fun e w'=>e=.returned (.int .i64 (xs[(bCA z len s n).toNat]?.getD 0))/\Drawn E B a len cap z (oBA len s n) w'/\w.grownBy w' (some B):=by
 obtain⟨b0,b1⟩:=kHA z len s n dQ;obtain⟨k,hk⟩:=Int.eq_ofNat_of_zero_le b0;have HX:=hQ hx;have HK:=hQ hk;have i1:k < n:=dQ;clear hx hk;go_enter Tryz.func36,Tryz.ntmps36;go_wp2_with fail;refine (bIA E B a len cap z s n _ h).mono ?_;rintro e w1 ⟨rfl,hd1,hg1⟩;have hc:w1.cell? ⟨g,k,none⟩=some (.int .i64 (xs[k]?.getD 0)):=by
  rw[World.cell?_of_block (hg1.block g J (fun e=>i6 (by cases e;rfl)))];exact HX.out k i1
 clear b0 b1;rw[HK.out];go_wp2;go_ret;exact⟨eFA (by rw[HK.out];rfl),hd1,hg1⟩
theorem gJA (w:World) (xs:List Int) (t:TypeId):∀ i,i < xs.length->(w.alloc (.cells (xs.map (Value.int .i64)).toArray t)).cell? ⟨w.heap.size,i,none⟩=some (.int .i64 (xs[i]?.getD 0)):=by
 intro i hi;rw[World.cell?_alloc_at _ _ _ _ rfl];simp[hi]
theorem uDA.start {E:Nat} {w:World} {a:Option Addr} {len cap:Nat} {z:List Int} (hc:uDA E w a len z) (hn:E<=w.heap.size) :
  Drawn E w.heap.size a len cap z (0,uEA z len) (w.alloc (.cells #[.slice a len cap,.int .i64 0,.int .i64 (uEA z len)] 109)):=
 ⟨hc.kept ((Below.refl _ _).alloc hn _),World.alloc_heap_new w _,hn⟩
theorem mCA {w w':World} {row:Option Nat} (h:Below w.heap.size w w'):w.grownBy w' row:=
 ⟨h.os,h.tape,h.output,h.size,fun i hi _=>h.block i hi⟩
theorem wGA {x y:World} {row:Option Nat} (h:x.grownBy y row) {p:Addr} (hp:x.heap.size<=p.block) (v:Value):x.grownBy (y.setCell p v) row:=
 ⟨h.os,h.tape,h.output,by simpa [World.setCell] using h.size,fun i hi hn=>(Below.heap_setCell y p v i dQ).trans (h.block i hi hn)⟩
theorem Drawn.setCell {E B:Nat} {a:Option Addr} {len cap:Nat} {z:List Int} {s:Nat×Int} {w:World} (h:Drawn E B a len cap z s w) {p:Addr} (hp:B < p.block) (v:Value):Drawn E B a len cap z s (w.setCell p v):=
 ⟨h.1.kept ((Below.refl _ _).setCell (by have:=h.2.2;omega) v),(Below.heap_setCell w p v B dQ).trans h.2.1,h.2.2⟩
theorem eJA (E B:Nat) (a:Option Addr) (len cap:Nat) (z:List Int) (s:Nat×Int) (n:Int) (w:World) (h:Drawn E B a len cap z s w) :
  Calls Tryz.prog 32 #[.pointer (some ⟨B,0,none⟩),.int .i64 n] w fun e w'=>e=.returned (.bool (bCA z len s n==0))/\Drawn E B a len cap z (oBA len s n) w'/\w.grownBy w' (some B):=by
 go_enter Tryz.func32,Tryz.ntmps32;go_wp2_with fail;refine (bIA E B a len cap z s n _ h).mono ?_;rintro e w1 ⟨rfl,hd1,hg1⟩;go_wp2;go_ret;exact⟨rfl,hd1,hg1⟩
def byteL:List Int:=[0,1,9,16,127,128,153,255,154,80]
def b2V (z:List Int) (len:Nat) (s:Nat×Int):Int:=if bCA z len s 2=0 then byteL[(bCA z len (oBA len s 2) 10).toNat]?.getD 0 else byteV z len (oBA len s 2)
def b2S (z:List Int) (len:Nat) (s:Nat×Int):Nat×Int:=if bCA z len s 2=0 then oBA len (oBA len s 2) 10 else nextS len (oBA len s 2)
theorem rRA (i:Nat):0<=byteL[i]?.getD 0/\byteL[i]?.getD 0<=255:=by
 cases hq:byteL[i]? with
 | none=>simp
 | some y=>
  have hm:=List.mem_of_getElem? hq;simp only[byteL,List.mem_cons,List.not_mem_nil,or_false] at hm;simp only[Option.getD_some];omega
theorem iAB (z:List Int) (len:Nat) (s:Nat×Int):0<=b2V z len s/\b2V z len s<=255:=by
 unfold b2V;split
 ·exact rRA _
 ·exact qFA z len _ _
theorem xUA (E B:Nat) (a:Option Addr) (len cap:Nat) (z:List Int) (s:Nat×Int) (w:World) (h:Drawn E B a len cap z s w) :
  Calls Tryz.prog 96 #[.pointer (some ⟨B,0,none⟩)] w fun e w'=>e=.returned (.int .u8 (b2V z len s))/\Drawn E B a len cap z (b2S z len s) w'/\w.grownBy w' (some B):=by
 by_cases h0:bCA z len s 2=0
 ·have HV:=hQ (show b2V z len s=byteL[(bCA z len (oBA len s 2) 10).toNat]?.getD 0 from if_pos h0);have HS:=hQ (show b2S z len s=oBA len (oBA len s 2) 10 from if_pos h0);have h1:(bCA z len s 2==0)=true:=by rw[h0];rfl
  obtain⟨q0,q1⟩:=rRA (bCA z len (oBA len s 2) 10).toNat
  clear h0;go_enter Tryz.func96,Tryz.ntmps96;go_wp2_with fail;refine (eJA E B a len cap z s 2 _ h).mono ?_;rintro e w1 ⟨rfl,hd1,hg1⟩;rw[h1];clear h1;go_wp2_with fail;have b5:=gJA w1 byteL 3;refine (xGA E B a len cap z (oBA len s 2) w1.heap.size 10 10 byteL _ (hd1.alloc _) dQ dQ (by have:=hd1.lt;omega) xQ (fun i hi=>b5 i hi)).mono ?_;rintro e w2 ⟨rfl,U,hg2⟩;go_wp2;go_ret;refine⟨eFA HV.out,by rw[HS.out];exact U,?_⟩;exact sAA hg1 (sAA (World.grownBy_alloc w1 _ (some B)) hg2)
 ·have HV:=hQ (show b2V z len s=byteV z len (oBA len s 2) from if_neg h0);have HS:=hQ (show b2S z len s=nextS len (oBA len s 2) from if_neg h0);have h1:(bCA z len s 2==0)=false:=by rw[beq_eq_false_iff_ne];exact h0
  obtain⟨q0,q1⟩:=qFA z len (oBA len s 2).1 (oBA len s 2).2;have c0:0<=byteV z len (oBA len s 2):=q0;have c1:byteV z len (oBA len s 2)<=255:=q1;clear h0 q0 q1;go_enter Tryz.func96,Tryz.ntmps96;go_wp2_with fail;refine (eJA E B a len cap z s 2 _ h).mono ?_;rintro e w1 ⟨rfl,hd1,hg1⟩;rw[h1];clear h1;go_wp2_with fail;refine (dEA E B a len cap z _ _ hd1).mono ?_;rintro e w2 ⟨rfl,U,hg2⟩;go_wp2;go_ret;exact⟨eFA HV.out,by rw[HS.out];exact U,sAA hg1 hg2⟩
def bFB (E B:Nat) (a:Option Addr) (len cap:Nat) (z:List Int) (w:World) (e:Ending) (w':World):Prop:=
 ∃ (x:Int) (s:Nat×Int),0<=x/\x<=255/\e=.returned (.int .u8 x)/\Drawn E B a len cap z s w'/\w.grownBy w' (some B)
theorem oZA (E B:Nat) (a:Option Addr) (len cap:Nat) (z:List Int) (s:Nat×Int) (w:World) (h:Drawn E B a len cap z s w) :
  Calls Tryz.prog 96 #[.pointer (some ⟨B,0,none⟩)] w (bFB E B a len cap z w):=
 (xUA E B a len cap z s w h).mono fun _ _ ⟨he,hd,J⟩=>⟨_,_,(iAB z len s).1,(iAB z len s).2,he,hd,J⟩
theorem uDA.startS {E:Nat} {w:World} {a:Option Addr} {len cap:Nat} {z:List Int} (hc:uDA E w a len z) (hn:E<=w.heap.size) :
  Drawn E w.heap.size a len cap z (0,uEA z len) (w.alloc (.cells #[.slice a len cap,.int .i64 0,.int .i64 (uEA z len)] 109)):=
 ⟨hc.kept ((Below.refl _ _).alloc hn _),World.alloc_heap_new w _,hn⟩
def Three (w:World) (a:Option Addr) (n x0 x1 x2:Nat):Prop:=
 n=0\/∃ g o,a=some ⟨g,o,none⟩/\g < w.heap.size/\w.cell? ⟨g,o,none⟩=some (.int .u8 x0)/\(2<=n->w.cell? ⟨g,o+1,none⟩=some (.int .u8 x1))/\(3<=n->w.cell? ⟨g,o+2,none⟩=some (.int .u8 x2))
def cut (p:UInt8->Bool):List UInt8->List (List UInt8)
 | []=>[[]]
 | c :: r=>if p c then [] :: cut p r else match cut p r with
  | []=>[[c]]
  | x :: xs=>(c :: x) :: xs
def NoGap (p:UInt8->Bool) (l:List UInt8) (b k:Nat):Prop:=∀ j,b<=j->j < k->p (l.getD j 0)=false
theorem NoGap.mem {p:UInt8->Bool} {l:List UInt8} {b k:Nat} (h:NoGap p l b k) (hk:k<=l.length):∀ d ∈ (l.drop b).take (k - b),p d=false:=by
 intro d hd;obtain⟨i,hi,rfl⟩:=List.mem_iff_getElem.1 hd;simp at hi;have:=h (b+i) dQ dQ;rw[List.getElem_take,List.getElem_drop];have e:l.getD (b+i) 0=l[b+i]' dQ:=by simp[List.getD,show b+i < l.length by omega]
 rw[e] at this;exact this
theorem NoGap.nil (p:UInt8->Bool) (l:List UInt8) (b:Nat):NoGap p l b b:=fun j h1 h2=>dQ
theorem NoGap.step {p:UInt8->Bool} {l:List UInt8} {b k:Nat} (h:NoGap p l b k) (m:Nat) (hm:∀ j,k<=j->j < m->p (l.getD j 0)=false):NoGap p l b m:=fun j h1 h2=>by
 by_cases hj:j < k
 ·exact h j h1 hj
 ·exact hm j dQ h2
def mFB (E B:Nat) (a:Option Addr) (len cap:Nat) (z:List Int) (w:World) (e:Ending) (w':World):Prop:=
 ∃ (x:Nat) (s:Nat×Int),x < 256/\e=.returned (.int .u8 x)/\Drawn E B a len cap z s w'/\w.grownBy w' (some B)
theorem gWA (z:List Int) (len:Nat) (s:Nat×Int):∃ x:Nat,x < 256/\byteV z len s=x:=by
 obtain⟨h0,h1⟩:=qFA z len s.1 s.2;exact⟨(byteX z len s.1 s.2).toNat,dQ,by unfold byteV;omega⟩
theorem yYA (E B:Nat) (a:Option Addr) (len cap:Nat) (z:List Int) (s:Nat×Int) (w:World) (h:Drawn E B a len cap z s w) :
  Calls Tryz.prog 99 #[.pointer (some ⟨B,0,none⟩)] w (mFB E B a len cap z w):=by
 obtain⟨x,hx,c8⟩:=gWA z len s;have i5:=hQ c8;clear c8;go_enter Tryz.func99,Tryz.ntmps99;go_wp2_with fail;refine (dEA E B a len cap z s _ h).mono ?_;rintro e w1 ⟨rfl,hd1,hg1⟩;rw[i5.out];clear h;go_wp2;go_loopw [3,4] (fun bb i wr=>∃ (y j:Nat) (s':Nat×Int),j<=3/\y < 256/\bb=.int .u8 y/\i=.int .i64 j/\Drawn E B a len cap z s' wr/\w.grownBy wr (some B)) (fun _ i _=>3 - (intOf i).toNat)
 case atStart=>exact⟨x,0,_,dQ,hx,rfl,rfl,hd1,hg1⟩
 case round=>
  obtain⟨y,j,s',hj,hy,rfl,rfl,hd,J⟩:=hrel;by_cases hp:j < 3
  ·cases hE:(lAA y).toList.isEmpty with
   | true=>
    obtain⟨x',i3,b7⟩:=gWA z len s';have e8:=hQ b7;clear b7;go_wp2_with fail;refine (jEA y hy _).mono ?_;rintro e w2 ⟨rfl,b2⟩;have U:=hd.below b2;go_wp2_with fail;refine (dEA E B a len cap z s' _ U).mono ?_;rintro e w3 ⟨rfl,hd3,hg3⟩;rw[e8.out];go_wp2;go_roundw
    case rel=>exact⟨x',j+1,_,dQ,i3,rfl,bQe,hd3,sAA (sAA J (mCA b2)) hg3⟩
    case measure=>simp[intOf];omega
   | false=>
    go_wp2_with fail;refine (jEA y hy _).mono ?_;rintro e w2 ⟨rfl,b2⟩;go_wp2;go_ret;exact⟨y,s',hy,rfl,hd.below b2,sAA J (mCA b2)⟩
  ·go_wp2;go_ret;exact⟨y,s',hy,rfl,hd,J⟩
theorem OwnB.grown {w w':World} {base B:Nat} {v:Value} {L:List Nat} (h:OwnB w base v L) (J:w.grownBy w' (some B)) (hB:B < base):OwnB w' base v L:=by
 refine⟨h.1,World.ownsRow.kept h.2 J ?_⟩;cases hv:v.ownBlock with
 | none=>exact .inl rfl
 | some g=>
  refine .inr ?_;have:=(World.ownsRow.lt h.2) g hv;intro e;simp at e;omega
theorem hKA {w w1 w2:World} {B:Nat} {row:Option Nat} (h:w.grownBy w1 (some B)) (J:w1.grownBy w2 row) (hr:∀ k,row=some k->w.heap.size<=k):w.grownBy w2 (some B):=
 ⟨J.os.trans h.os,J.tape.trans h.tape,J.output.trans h.output,Nat.le_trans h.size J.size,fun i hi hn=>(J.block i (Nat.lt_of_lt_of_le hi h.size) (fun e=>by have:=hr i e.symm;omega)).trans (h.block i hi hn)⟩
theorem Drawn.grown {E B:Nat} {a:Option Addr} {len cap:Nat} {z:List Int} {s:Nat×Int} {w w':World} {row:Option Nat} (h:Drawn E B a len cap z s w) (J:w.grownBy w' row) (hr:∀ k,row=some k->B < k):Drawn E B a len cap z s w':=by
 have a8:=h.lt;have hn:=h.2.2;refine⟨h.1.kept ⟨J.os,J.tape,J.output,J.size,fun i hi=>J.block i dQ (fun e=>by have:=hr i e.symm;omega)⟩,?_,hn⟩;exact (J.block B a8 (fun e=>by have:=hr B e.symm;omega)).trans h.2.1
def iYA (E B:Nat) (a:Option Addr) (len cap:Nat) (z:List Int) (n m:Nat) (w:World) (e:Ending) (w':World):Prop:=
 ∃ (v:Value) (L:List Nat) (s:Nat×Int),(L.length<=m/\n<=L.length)/\e=.returned v/\OwnB w' w.heap.size v L/\Drawn E B a len cap z s w'/\w.grownBy w' (some B)
theorem mWA {L:List Nat} {x:Nat} (h:∀ i,i < L.length->L.getD i 0 < 256) (hx:x < 256):∀ i,i < (L++[x]).length->(L++[x]).getD i 0 < 256:=by
 intro i hi;rw[List.getD];by_cases hl:i < L.length
 ·rw[List.getElem?_append_left hl];exact h i hl
 ·rw[List.length_append] at hi;simp only[List.length_cons,List.length_nil] at hi;obtain rfl:i=L.length:=dQ;simpa using hx
theorem qQA (E B:Nat) (a:Option Addr) (len cap:Nat) (z:List Int) (s:Nat×Int) (n:Nat) (hn:n<=1000) (w:World) (h:Drawn E B a len cap z s w) :
  Calls Tryz.prog 95 #[.pointer (some ⟨B,0,none⟩),.int .i64 n] w (iYA E B a len cap z n (3*n) w):=by
 obtain⟨i0,hi,hz0,hz1,c9⟩:=info_parts xFA;have e9:=h.lt;go_enter Tryz.func95,Tryz.ntmps95;go_wp2;go_loopw [5,6] (fun out i wr=>∃ (j:Nat) (L:List Nat) (s':Nat×Int),j<=n/\(L.length<=3*j/\j<=L.length)/\i=.int .i64 j/\OwnB wr w.heap.size out L/\Drawn E B a len cap z s' wr/\w.grownBy wr (some B)) (fun _ i _=>n - (intOf i).toNat)
 case atStart=>exact⟨0,[],s,Nat.zero_le _,xQ,rfl,⟨fun i hi=>by simp at hi,World.ownsRow_made w #[] 0 (Nat.le_refl _) iQ rfl⟩,h.alloc _,World.grownBy_alloc w _ (some B)⟩
 case round=>
  obtain⟨j,L,s',hj,hL,rfl,hO,hd,J⟩:=hrel;by_cases hp:j < n
  ·go_wp2_with fail;refine (yYA E B a len cap z s' _ hd).mono ?_;rintro e w1 ⟨x,s1,hx,rfl,hd1,hg1⟩;have a7:=hO.grown hg1 e9;have c7:=sAA J hg1;have e4:=c7.size;clear hO hd J hg1;go_wp2_with (at_builtin;refine wpList_append_own _ rfl _ _ 22 rfl w.heap.size 5 i0 (.int .u8 0) 1 1 Tryz.underlying22 hi hz0 hz1 c9 rfl iQ _ _ _ rfl (World.ownsRow.alloc a7.2 _) ⟨w1.heap.size,0,none⟩ 1 1 [u8V x] rfl rfl (cell_one_new _ _ _) ?c2 ?c3 ?c4 ?c5 ?_)
   case c2=>first|rfl|(intro u hu;simp at hu;subst hu;rfl)
   case c3=>unfold maxLen;first|omega|(simp;omega)
   case c4=>first|omega|(simp;omega)
   case c5=>first|omega|(simp;omega)
   intro v2 w2 a5 T _;have Q:∀ k,Value.ownBlock _=some k->w.heap.size<=k:=fun k ek=>((World.ownsRow.lt a7.2) k ek).1
   have i2:w.grownBy w2 (some B):=hKA (sAA c7 (World.grownBy_alloc w1 _ (some B))) T Q;have U:=(hd1.alloc _).grown T (fun k ek=>by have:=Q k ek;omega);have j2:OwnB w2 w.heap.size v2 (L++[x]):=⟨mWA a7.1 hx,by simpa using a5⟩;clear a5 T a7 hd1 c7 Q e4;obtain⟨k,hk⟩:∃ k:Nat,rAA x=k/\k<=3:=by
    obtain⟨z0,z3⟩:=kRA hx;exact⟨(rAA x).toNat,dQ,dQ⟩
   obtain⟨hk,j9⟩:=hk;have b8:=fun w=>sJA x hx w
   rw[hk] at b8;clear hk;go_wp2;go_loopw [5,8] (fun out i wr=>∃ (m:Nat) (M:List Nat) (s':Nat×Int),1<=m/\m<=3/\(M.length<=3*j+m/\j+1<=M.length)/\i=.int .i64 m/\OwnB wr w.heap.size out M/\Drawn E B a len cap z s' wr/\w.grownBy wr (some B)) (fun _ i _=>3 - (intOf i).toNat)
   case atStart=>exact⟨1,L++[x],s1,Nat.le_refl _,dQ,qQ,rfl,j2,U,i2⟩
   case round=>
    obtain⟨m,M,s3,k3,j3,hM,rfl,hO3,hd3,hg3⟩:=hrel;by_cases j8:m < k
    ·have e7:(m:Int) < (k:Int):=dQ;go_wp2_with fail;refine (b8 _).mono ?_;rintro e w4 ⟨rfl,b4⟩;have a6:=hO3.below b4;have a2:=hd3.below b4;have a9:=sAA hg3 (mCA b4);clear hO3 hd3 hg3 b4;go_wp2_with fail;refine (oZA E B a len cap z s3 _ a2).mono ?_;rintro e w5 ⟨y,s5,i9,j5,rfl,hd5,hg5⟩;obtain⟨Y,rfl⟩:=Int.eq_ofNat_of_zero_le i9;have b3:=a6.grown hg5 e9;have b9:=sAA a9 hg5;have e6:=b9.size;clear a6 a2 a9 hg5;go_wp2_with (at_builtin;refine wpList_append_own _ rfl _ _ 22 rfl w.heap.size 5 i0 (.int .u8 0) 1 1 Tryz.underlying22 hi hz0 hz1 c9 rfl iQ _ _ _ rfl (World.ownsRow.alloc b3.2 _) ⟨w5.heap.size,0,none⟩ 1 1 [u8V Y] rfl rfl (cell_one_new _ _ _) ?c2 ?c3 ?c4 ?c5 ?_)
     case c2=>first|rfl|(intro u hu;simp at hu;subst hu;rfl)
     case c3=>unfold maxLen;first|omega|(simp;omega)
     case c4=>first|omega|(simp;omega)
     case c5=>first|omega|(simp;omega)
     intro v6 w6 a4 a0 _;have Q:∀ k,Value.ownBlock _=some k->w.heap.size<=k:=fun k ek=>((World.ownsRow.lt b3.2) k ek).1
     have j0:w.grownBy w6 (some B):=hKA (sAA b9 (World.grownBy_alloc w5 _ (some B))) a0 Q;have i7:=(hd5.alloc _).grown a0 (fun k ek=>by have:=Q k ek;omega);have i4:OwnB w6 w.heap.size v6 (M++[Y]):=⟨mWA b3.1 dQ,by simpa using a4⟩;clear a4 a0 b3 hd5 b9 Q e6;go_wp2;go_roundw
     case rel=>exact⟨m+1,M++[Y],s5,dQ,dQ,qQ,bQe,i4,i7,j0⟩
     case measure=>simp[intOf];omega
    ·have e7:¬ (m:Int) < (k:Int):=dQ;go_wp2_with fail;refine (b8 _).mono ?_;rintro e w4 ⟨rfl,b4⟩;have a6:=hO3.below b4;have a2:=hd3.below b4;have a9:=sAA hg3 (mCA b4);clear hO3 hd3 hg3 b4;go_wp2;go_roundw
     case rel=>exact⟨j+1,M,s3,dQ,dQ,bQe,a6,a2,a9⟩
     case measure=>simp[intOf];omega
  ·obtain rfl:j=n:=dQ;go_wp2;go_ret;exact⟨_,L,s',hL,rfl,hO,hd,J⟩
theorem BoxN.grown {w w':World} {B C:Nat} {t:TypeId} {cs:Array Value} (h:BoxN w B t cs) (J:w.grownBy w' (some C)) (hne:B≠C):BoxN w' B t cs:=(J.block B h.lt (by intro e;cases e;exact hne rfl)).trans h

end Go.Proofs.YtckfdbjjjgfbfaaGreat
