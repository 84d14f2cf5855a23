import Derived.Test.YtckfdbjjjgfbfaaGreatVPlayM
import Derived.Test.YtckfdbjjjgfbfaaGreatVPlayO
set_option linter.unusedVariables false
set_option linter.unusedSimpArgs false
set_option maxRecDepth 100000
set_option maxHeartbeats 4000000
namespace Go.Proofs.YtckfdbjjjgfbfaaGreat
open Go.RowKit
theorem bPA {q z t:Nat} (hz:z < 256) (ht:(q+offN z) % 65536=t):IntKind.u16.wrap ((q:Int)+IntKind.u16.wrap (IntKind.i8.wrap (z:Int)))=(t:Int):=by
 have e1:IntKind.i8.wrap (z:Int)=if 128<=z then (z:Int) - 256 else (z:Int):=by
  simp only[IntKind.wrap,IntKind.bits,IntKind.signed];simp;split<;>split<;>omega
 rw[e1,w16,w16,<-ht];unfold offN;split<;>omega
theorem Play.branch_no {F:Nat->Prop} {w W:World} {P:Nat} {o:Option Nat} {k:OpK} {s:St} {N:Nat} (p:Play F w W P o k s N) (i:Nat) (hi:i ∈ [41,42,43,44,45,46,47,48]) (hk:k.nm=opTx i) (R:aBA s.fetch.2.c (opTx i).toList=false) (hN:N<=88) {s':St} (hs:s.branchP (opTx i).toList=s') :
  Calls Tryz.prog 166 #[.pointer (some ⟨P,0,none⟩)] W fun e w'=>e=.returned (.tuple #[])/\Play F w w' P o k s' (N+1):=by
 obtain⟨hA,hX,hY,hS,Q⟩:=p.pl.ok;obtain⟨z1,hz1⟩:∃ l,s.fetch.1=l:=⟨_,rfl⟩;obtain⟨U,hs1⟩:∃ l,s.fetch.2=l:=⟨_,rfl⟩;rw[hs1] at R;have a6:z1 < 256:=uQd;have K:U=s':=by rw[<-hs];unfold St.branchP;rw[hs1,R];rfl
 have E:=j_ K;clear hs K;have HH:=j_ R;clear R;have Hz1:=j_ hz1;have a0:=j_ hs1;clear hz1 hs1;go_enter Tryz.func166,Tryz.ntmps166;go_wp2_with fail;refine (p.fetch dQ Hz1.out a0.out).mono ?_;rintro e w1 ⟨rfl,p2⟩;go_wp2_with fail;refine (p2.branches_any i hi hk).mono ?_;rintro e w3 ⟨rfl,rfl⟩;rw[HH.out];go_wp2
 (try simp only[Exit.inBlock,Exit.then])
 first|refine bodyPost_ret (results_none rfl _ _ _) rfl ?_|refine bodyPost_end (results_none rfl _ _ _) rfl ?_
 refine⟨rfl,?_⟩;exact (by rw[<-E.out];exact p2)
theorem Play.branch_same {F:Nat->Prop} {w W:World} {P:Nat} {o:Option Nat} {k:OpK} {s:St} {N:Nat} (p:Play F w W P o k s N) (i:Nat) (hi:i ∈ [41,42,43,44,45,46,47,48]) (hk:k.nm=opTx i) (R:aBA s.fetch.2.c (opTx i).toList=true) (hc:rAA s.fetch.2.c.PC ((s.fetch.2.c.PC+offN s.fetch.1) % 65536)=(s.fetch.2.c.PC+offN s.fetch.1) % 65536) (hN:N<=86) {s':St} (hs:s.branchP (opTx i).toList=s') :
  Calls Tryz.prog 166 #[.pointer (some ⟨P,0,none⟩)] W fun e w'=>e=.returned (.tuple #[])/\Play F w w' P o k s' (N+2):=by
 obtain⟨hA,hX,hY,hS,Q⟩:=p.pl.ok;obtain⟨z1,hz1⟩:∃ l,s.fetch.1=l:=⟨_,rfl⟩;obtain⟨U,hs1⟩:∃ l,s.fetch.2=l:=⟨_,rfl⟩;rw[hs1] at R;have a6:z1 < 256:=uQd;obtain⟨q,hq⟩:∃ l,U.c.PC=l:=⟨_,rfl⟩;obtain⟨t,ht⟩:∃ l,(q+offN z1) % 65536=l:=⟨_,rfl⟩;obtain⟨y,hy⟩:∃ l,rAA q t=l:=⟨_,rfl⟩;obtain⟨b2,hb2⟩:∃ l,U.b.rd q=l:=⟨_,rfl⟩;rw[hs1,hz1,hq,ht,hy] at hc;have qb:q < 65536:=by rw[<-hq,<-hs1];show (_+1) % 65536 < 65536;omega
 have tb:t < 65536:=dQ;have yb:y < 65536:=pQh;have a7:s.c.PC < 65536:=Q;have e5:IntKind.u16.wrap ((q:Int)+IntKind.u16.wrap (IntKind.i8.wrap (z1:Int)))=(t:Int):=bPA a6 ht;have K:(⟨{ U.c with PC:=t },b2⟩:St)=s':=by rw[<-hs];unfold St.branchP;rw[hs1,hz1,R,if_pos rfl,hq,ht,hy,if_pos hc,<-hb2,<-hq];rfl
 have t1:((y:Int) != (t:Int))=false:=by rw[hc];simp
 have E:=j_ K;clear hs K;have HH:=j_ R;clear R hc;have Hz1:=j_ hz1;have a0:=j_ hs1;have Hq:=j_ hq;have Ht:=j_ ht;have Hy:=j_ hy;have a5:=j_ hb2;clear hz1 hs1 hq ht hy hb2;go_enter Tryz.func166,Tryz.ntmps166;go_wp2_with fail;refine (p.fetch dQ Hz1.out a0.out).mono ?_;rintro e w1 ⟨rfl,p2⟩;go_wp2_with fail;refine (p2.branches_any i hi hk).mono ?_;rintro e w3 ⟨rfl,rfl⟩;rw[HH.out];go_wp2_with fail;refine (p2.idle dQ (s':=⟨U.c,b2⟩) (by rw[<-a5.out,<-Hq.out];rfl)).mono ?_;rintro e w4 ⟨rfl,H⟩;clear p2;obtain⟨g0,g1,g2,g3,g4,g5,g6,g7,g8,g9,g10,a1,a2,a3,a4,gf⟩:=H.cells;rw[Hq.out] at g4;go_wp2_with fail;refine (pCA q t qb tb Hy.out _).mono ?_;rintro e w6 ⟨rfl,rfl⟩;go_wp2
 (try simp only[Exit.inBlock,Exit.then])
 first|refine bodyPost_ret (results_none rfl _ _ _) rfl ?_|refine bodyPost_end (results_none rfl _ _ _) rfl ?_
 refine⟨rfl,?_⟩;exact H.setPC _ t rfl tb E.out
theorem Play.branch_cross {F:Nat->Prop} {w W:World} {P:Nat} {o:Option Nat} {k:OpK} {s:St} {N:Nat} (p:Play F w W P o k s N) (i:Nat) (hi:i ∈ [41,42,43,44,45,46,47,48]) (hk:k.nm=opTx i) (R:aBA s.fetch.2.c (opTx i).toList=true) (hc:¬ rAA s.fetch.2.c.PC ((s.fetch.2.c.PC+offN s.fetch.1) % 65536)=(s.fetch.2.c.PC+offN s.fetch.1) % 65536) (hN:N<=84) {s':St} (hs:s.branchP (opTx i).toList=s') :
  Calls Tryz.prog 166 #[.pointer (some ⟨P,0,none⟩)] W fun e w'=>e=.returned (.tuple #[])/\Play F w w' P o k s' (N+3):=by
 obtain⟨hA,hX,hY,hS,Q⟩:=p.pl.ok;obtain⟨z1,hz1⟩:∃ l,s.fetch.1=l:=⟨_,rfl⟩;obtain⟨U,hs1⟩:∃ l,s.fetch.2=l:=⟨_,rfl⟩;rw[hs1] at R;have a6:z1 < 256:=uQd;obtain⟨q,hq⟩:∃ l,U.c.PC=l:=⟨_,rfl⟩;obtain⟨t,ht⟩:∃ l,(q+offN z1) % 65536=l:=⟨_,rfl⟩;obtain⟨y,hy⟩:∃ l,rAA q t=l:=⟨_,rfl⟩;obtain⟨b2,hb2⟩:∃ l,U.b.rd q=l:=⟨_,rfl⟩;rw[hs1,hz1,hq,ht,hy] at hc;have qb:q < 65536:=by rw[<-hq,<-hs1];show (_+1) % 65536 < 65536;omega
 have tb:t < 65536:=dQ;have yb:y < 65536:=pQh;have a7:s.c.PC < 65536:=Q;have e5:IntKind.u16.wrap ((q:Int)+IntKind.u16.wrap (IntKind.i8.wrap (z1:Int)))=(t:Int):=bPA a6 ht;have K:(⟨{ U.c with PC:=t },b2.rd y⟩:St)=s':=by rw[<-hs];unfold St.branchP;rw[hs1,hz1,R,if_pos rfl,hq,ht,hy,if_neg hc,<-hb2,<-hq];rfl
 have t1:((y:Int) != (t:Int))=true:=by simpa using fun h=>hc dQ
 have E:=j_ K;clear hs K;have HH:=j_ R;clear R hc;have Hz1:=j_ hz1;have a0:=j_ hs1;have Hq:=j_ hq;have Ht:=j_ ht;have Hy:=j_ hy;have a5:=j_ hb2;clear hz1 hs1 hq ht hy hb2;obtain⟨a8,a9⟩:=methR;rcases o with _|B
 ·go_enter Tryz.func166,Tryz.ntmps166;go_wp2_with fail;refine (p.fetch dQ Hz1.out a0.out).mono ?_;rintro e w1 ⟨rfl,p2⟩;go_wp2_with fail;refine (p2.branches_any i hi hk).mono ?_;rintro e w3 ⟨rfl,rfl⟩;rw[HH.out];go_wp2_with fail;refine (p2.idle dQ (s':=⟨U.c,b2⟩) (by rw[<-a5.out,<-Hq.out];rfl)).mono ?_;rintro e w4 ⟨rfl,H⟩;clear p2;obtain⟨g0,g1,g2,g3,g4,g5,g6,g7,g8,g9,g10,a1,a2,a3,a4,gf⟩:=H.cells;rw[Hq.out] at g4;go_wp2_with fail;refine (pCA q t qb tb Hy.out _).mono ?_;rintro e w6 ⟨rfl,rfl⟩;go_wp2_with fail;refine (H.read _ y rfl yb dQ rfl (s':=⟨U.c,b2.rd y⟩) rfl).mono ?_;rintro e w7 ⟨rfl,p8⟩;clear g0 g1 g2 g3 g4 g5 g6 g7 g8 g9 g10 a1 a2 a3 a4 gf;clear H;obtain⟨g0,g1,g2,g3,g4,g5,g6,g7,g8,g9,g10,a1,a2,a3,a4,gf⟩:=p8.cells;go_wp2
  (try simp only[Exit.inBlock,Exit.then])
  first|refine bodyPost_ret (results_none rfl _ _ _) rfl ?_|refine bodyPost_end (results_none rfl _ _ _) rfl ?_
  refine⟨rfl,?_⟩;exact p8.setPC _ t rfl tb E.out
 ·go_enter Tryz.func166,Tryz.ntmps166;go_wp2_with fail;refine (p.fetch dQ Hz1.out a0.out).mono ?_;rintro e w1 ⟨rfl,p2⟩;go_wp2_with fail;refine (p2.branches_any i hi hk).mono ?_;rintro e w3 ⟨rfl,rfl⟩;rw[HH.out];go_wp2_with fail;refine (p2.idle dQ (s':=⟨U.c,b2⟩) (by rw[<-a5.out,<-Hq.out];rfl)).mono ?_;rintro e w4 ⟨rfl,H⟩;clear p2;obtain⟨g0,g1,g2,g3,g4,g5,g6,g7,g8,g9,g10,a1,a2,a3,a4,gf⟩:=H.cells;rw[Hq.out] at g4;go_wp2_with fail;refine (pCA q t qb tb Hy.out _).mono ?_;rintro e w6 ⟨rfl,rfl⟩;go_wp2_with fail;refine (H.read _ y rfl yb dQ rfl (s':=⟨U.c,b2.rd y⟩) rfl).mono ?_;rintro e w7 ⟨rfl,p8⟩;clear g0 g1 g2 g3 g4 g5 g6 g7 g8 g9 g10 a1 a2 a3 a4 gf;clear H;obtain⟨g0,g1,g2,g3,g4,g5,g6,g7,g8,g9,g10,a1,a2,a3,a4,gf⟩:=p8.cells;go_wp2
  (try simp only[Exit.inBlock,Exit.then])
  first|refine bodyPost_ret (results_none rfl _ _ _) rfl ?_|refine bodyPost_end (results_none rfl _ _ _) rfl ?_
  refine⟨rfl,?_⟩;exact p8.setPC _ t rfl tb E.out
theorem Play.branch {F:Nat->Prop} {w W:World} {P:Nat} {o:Option Nat} {k:OpK} {s:St} {N:Nat} (p:Play F w W P o k s N) (i:Nat) (hi:i ∈ [41,42,43,44,45,46,47,48]) (hk:k.nm=opTx i) (hN:N<=80) {s':St} (hs:s.branchP (opTx i).toList=s') :
  Calls Tryz.prog 166 #[.pointer (some ⟨P,0,none⟩)] W fun e w'=>e=.returned (.tuple #[])/\Play F w w' P o k s' (N+3):=by
 cases h:aBA s.fetch.2.c (opTx i).toList with
 | false=>exact (p.branch_no i hi hk h dQ hs).mono fun _ _ h=>⟨h.1,h.2.mono dQ⟩
 | true=>
  by_cases hc:rAA s.fetch.2.c.PC ((s.fetch.2.c.PC+offN s.fetch.1) % 65536)=(s.fetch.2.c.PC+offN s.fetch.1) % 65536
  ·exact (p.branch_same i hi hk h hc dQ hs).mono fun _ _ h=>⟨h.1,h.2.mono dQ⟩
  ·exact (p.branch_cross i hi hk h hc dQ hs).mono fun _ _ h=>⟨h.1,h.2.mono dQ⟩
abbrev opKof (n:Nat):OpK:=⟨lAA n,iAA n,sAA n,eAA n⟩
theorem gYA {b:Nat} (hb:b < 256):eAA b=6->(iAA b=6\/iAA b=9):=uBA (p:=fun b=>eAA b=6->(iAA b=6\/iAA b=9)) cQb hb
theorem eYA {b:Nat} (hb:b < 256):eAA b=11->(opId b=35\/opId b=33):=uBA (p:=fun b=>eAA b=11->(opId b=35\/opId b=33)) cQb hb
theorem fYA {b:Nat} (hb:b < 256):eAA b=12->(opId b=36\/opId b=34):=uBA (p:=fun b=>eAA b=12->(opId b=36\/opId b=34)) cQb hb
theorem rTA {b:Nat} (hb:b < 256):eAA b=0\/eAA b=1\/eAA b=2\/eAA b=3\/eAA b=4\/eAA b=5\/eAA b=6\/eAA b=7\/eAA b=8\/eAA b=9\/eAA b=10\/eAA b=11\/eAA b=12:=
 uBA (p:=fun b=>eAA b=0\/eAA b=1\/eAA b=2\/eAA b=3\/eAA b=4\/eAA b=5\/eAA b=6\/eAA b=7\/eAA b=8\/eAA b=9\/eAA b=10\/eAA b=11\/eAA b=12) cQb hb
theorem bHA {m:Int} (h:m=2\/m ∈ qDA):m=2\/m=3\/m=4\/m=5\/m=6\/m=7\/m=8\/m=10\/m=11:=by
 rcases h with h|h
 ·exact .inl h
 ·exact .inr (nGA h)
theorem Play.step {F:Nat->Prop} {w W:World} {P:Nat} {o:Option Nat} {n:Nat} {s:St} {N:Nat} (p:Play F w W P o (opKof n) s N) (hn:n < 256) (hN:N<=40) {t:St} (hs:s.stepP n=t) :
  Calls Tryz.prog 152 #[.pointer (some ⟨P,0,none⟩)] W fun e w'=>e=.returned (.tuple #[])/\Play F w w' P o (opKof n) t (N+9):=by
 unfold St.stepP at hs;rcases rTA hn with h|h|h|h|h|h|h|h|h|h|h|h|h
 ·rw[if_pos h] at hs;exact (p.step_none h dQ hs).mono fun _ _ h=>⟨h.1,h.2.mono dQ⟩
 all_goals
  rw[if_neg dQ] at hs;unfold St.kindP at hs;simp only[h,Int.reduceEq,if_true,if_false,reduceIte] at hs
 ·refine p.step_1 (t:=t) h (fun W' q=>?_) dQ rfl;rcases op_k1 hn h with ⟨J,hi⟩|⟨J,hi⟩
  ·rw[J] at hs;exact (q.imp_any _ hi rfl J dQ hs).mono fun _ _ h=>⟨h.1,h.2.mono dQ⟩
  ·rw[J] at hs;exact (q.acc_any _ hi rfl J dQ hs).mono fun _ _ h=>⟨h.1,h.2.mono dQ⟩
 ·refine p.step_2 (t:=t) h (fun W' q=>?_) dQ rfl;obtain⟨hi,J⟩:=op_k2 hn h;exact (q.playRead _ wQg rfl (bHA J) dQ (by rw[<-hs,<-h];rfl)).mono fun _ _ h=>⟨h.1,h.2.mono dQ⟩
 ·refine p.step_3 (t:=t) h (fun W' q=>?_) dQ rfl;obtain⟨hi,J⟩:=op_k3 hn h;exact (q.playWrite _ wQg rfl (bHA (.inr J)) dQ (by rw[<-hs,<-h];rfl)).mono fun _ _ h=>⟨h.1,h.2.mono dQ⟩
 ·refine p.step_4 (t:=t) h (fun W' q=>?_) dQ rfl;obtain⟨hi,J⟩:=op_k4 hn h;exact (q.playModify _ wQg rfl (bHA (.inr J)) dQ (by rw[<-hs,<-h];rfl)).mono fun _ _ h=>⟨h.1,h.2.mono dQ⟩
 ·refine p.step_5 (t:=t) h (fun W' q=>?_) dQ rfl;exact (q.branch _ (op_k5 hn h) rfl dQ hs).mono fun _ _ h=>⟨h.1,h.2.mono dQ⟩
 ·refine p.step_6 (t:=t) h (fun W' q=>?_) dQ rfl;rcases gYA hn h with J|J
  ·rw[J] at hs;exact (q.jump_abs J dQ hs).mono fun _ _ h=>⟨h.1,h.2.mono dQ⟩
  ·rw[J] at hs;exact (q.jump_ind J dQ hs).mono fun _ _ h=>⟨h.1,h.2.mono dQ⟩
 ·refine p.step_7 (t:=t) h (fun W' q=>?_) dQ rfl;exact (q.playSub dQ hs).mono fun _ _ h=>⟨h.1,h.2.mono dQ⟩
 ·refine p.step_8 (t:=t) h (fun W' q=>?_) dQ rfl;exact (q.playBack dQ hs).mono fun _ _ h=>⟨h.1,h.2.mono dQ⟩
 ·refine p.step_9 (t:=t) h (fun W' q=>?_) dQ rfl;exact (q.playRti dQ hs).mono fun _ _ h=>⟨h.1,h.2.mono dQ⟩
 ·refine p.step_10 (t:=t) h (fun W' q=>?_) dQ rfl;exact (q.playBrk dQ hs).mono fun _ _ h=>⟨h.1,h.2.mono dQ⟩
 ·refine p.step_11 (t:=t) h (fun W' q=>?_) dQ rfl;rcases eYA hn h with hi|hi
  ·have e:lAA n=⟨#[80,72,65]⟩:=by unfold lAA;rw[hi];rfl
   rw[e,show (⟨#[80,72,65]⟩:ByteArray).toList=[80,72,65] by rw[ByteArray.toList_eq]] at hs;exact (q.push_PHA e dQ hs).mono fun _ _ h=>⟨h.1,h.2.mono dQ⟩
  ·have e:lAA n=⟨#[80,72,80]⟩:=by unfold lAA;rw[hi];rfl
   rw[e,show (⟨#[80,72,80]⟩:ByteArray).toList=[80,72,80] by rw[ByteArray.toList_eq]] at hs;exact (q.push_PHP e dQ hs).mono fun _ _ h=>⟨h.1,h.2.mono dQ⟩
 ·refine p.step_12 (t:=t) h (fun W' q=>?_) dQ rfl;rcases fYA hn h with hi|hi
  ·have e:lAA n=⟨#[80,76,65]⟩:=by unfold lAA;rw[hi];rfl
   rw[e,show (⟨#[80,76,65]⟩:ByteArray).toList=[80,76,65] by rw[ByteArray.toList_eq]] at hs;exact (q.pull_PLA e dQ hs).mono fun _ _ h=>⟨h.1,h.2.mono dQ⟩
  ·have e:lAA n=⟨#[80,76,80]⟩:=by unfold lAA;rw[hi];rfl
   rw[e,show (⟨#[80,76,80]⟩:ByteArray).toList=[80,76,80] by rw[ByteArray.toList_eq]] at hs;exact (q.pull_PLP e dQ hs).mono fun _ _ h=>⟨h.1,h.2.mono dQ⟩
def im0r:Nat->Int
 | 0=>0
 | 1=>6
 | 2=>0
 | 3=>0
 | 4=>-1
 | 5=>2
 | 6=>2
 | _=>2
def im0p:Nat->Int
 | 0=>-1
 | 1=>3
 | 2=>0
 | 3=>6
 | 4=>12
 | 5=>4
 | 6=>0
 | _=>7
def im2p:Nat->Int
 | 0=>2
 | 1=>3
 | 2=>0
 | 3=>6
 | 4=>-1
 | 5=>4
 | 6=>0
 | _=>7
def im0 (r p:Nat):Int:=if p=0 then im0r r else if p=3/\r=3 then 9 else im0p p
def im2 (r p:Nat):Int:=if p=2/\r < 4 then 1 else if p=5/\(r=4\/r=5) then 5 else if p=7/\(r=4\/r=5) then 8 else im2p p
def imAt (r p s:Nat):Int:=if s=0 then im0 r p else if s=1 then lGA p else im2 r p
theorem bDB {b:Nat} (hb:b < 256) (h:opId b≠0):imAt (b / 32) (b / 4 % 8) (b % 4)=iAA b:=by
 have:=uBA (p:=fun b=>opId b=0\/imAt (b / 32) (b / 4 % 8) (b % 4)=iAA b) cQb hb;rcases this with h0|h0
 ·exact absurd h0 h
 ·exact h0
theorem fNA (m:Int) (w:World) :
  Calls Tryz.prog 89 #[.int .i64 m] w fun e w'=>e=.returned (.int .i64 (gDA m))/\w=w':=by
 go_enter Tryz.func89,Tryz.ntmps89;go_wp2;all_goals go_ret
 all_goals refine⟨?_,rfl⟩
 all_goals simp_all [gDA]
theorem uMA (s:ByteArray) (m:Int) (w:World) :
  Calls Tryz.prog 123 #[.string s,.int .i64 m] w fun e w'=>e=.returned (.int .i64 (kindM s.toList m))/\w=w':=by
 go_enter Tryz.func123,Tryz.ntmps123;go_wp2;all_goals go_ret
 all_goals refine⟨?_,rfl⟩
 all_goals simp_all [kindM]
theorem vMA (s:ByteArray) (m:Int) (w:World) :
  Calls Tryz.prog 90 #[.string s,.int .i64 m] w fun e w'=>e=.returned (.int .i64 (kindN s.toList m))/\w=w':=by
 go_enter Tryz.func90,Tryz.ntmps90;go_wp2_with (go_at_call 123;refine (uMA _ _ _).mono ?_;rintro e w' ⟨rfl,rfl⟩);all_goals go_ret
 all_goals refine⟨?_,rfl⟩
 all_goals simp_all [kindN]
theorem wMA (r p:Nat) (hr:r < 8) (j:p < 8) (w:World) :
  Calls Tryz.prog 121 #[.int .i64 r,.int .i64 p] w fun e w'=>e=.returned (.int .i64 (im0 r p))/\w=w':=by
 have hT:∀ w:World,(Instr.index 162 (.agg #[.int .i64 0,.int .i64 6,.int .i64 0,.int .i64 0,.int .i64 (-1),.int .i64 2,.int .i64 2,.int .i64 2]) (.int .i64 r)).run Tryz.prog w=.ok (.int .i64 (im0r r)) w:=by
  intro w;rcases r with _|_|_|_|_|_|_|_|r<;>first|omega|kernel_rfl
 have Q:∀ w:World,(Instr.index 162 (.agg #[.int .i64 (-1),.int .i64 3,.int .i64 0,.int .i64 6,.int .i64 12,.int .i64 4,.int .i64 0,.int .i64 7]) (.int .i64 p)).run Tryz.prog w=.ok (.int .i64 (im0p p)) w:=by
  intro w;rcases p with _|_|_|_|_|_|_|_|p<;>first|omega|kernel_rfl
 cases k0:((p:Int)==0) with
 | true=>
  have h0:p=0:=mQi;go_enter Tryz.func121,Tryz.ntmps121;go_wp2;go_ret;exact⟨by simp[im0,h0],rfl⟩
 | false=>
  have h0:¬ p=0:=mQi;cases T:((p:Int)==3) with
  | true=>
   cases g3:((r:Int)==3) with
   | true=>
    have h3:p=3:=by simp at T;omega
    have j3:r=3:=by simp at g3;omega
    go_enter Tryz.func121,Tryz.ntmps121;go_wp2;go_ret;exact⟨by simp[im0,h3,j3],rfl⟩
   | false=>
    have j3:¬ r=3:=by simp at g3;omega
    go_enter Tryz.func121,Tryz.ntmps121;go_wp2;go_ret;exact⟨by simp[im0,h0,j3],rfl⟩
  | false=>
   have h3:¬ p=3:=by simp at T;omega
   go_enter Tryz.func121,Tryz.ntmps121;go_wp2;go_ret;exact⟨by simp[im0,h0,h3],rfl⟩
theorem iOA (r p:Nat) (j:p < 8) (k0:((r:Int)==4)=true) (O:((p:Int)==2)=true) (k2:¬ (r:Int) < 4) (T:((p:Int)==5)=false) (k4:((p:Int)==7)=false) (w:World) :
  Calls Tryz.prog 122 #[.int .i64 r,.int .i64 p] w fun e w'=>e=.returned (.int .i64 (im2p p))/\w=w':=by
 have Q:∀ w:World,(Instr.index 162 (.agg #[.int .i64 2,.int .i64 3,.int .i64 0,.int .i64 6,.int .i64 (-1),.int .i64 4,.int .i64 0,.int .i64 7]) (.int .i64 p)).run Tryz.prog w=.ok (.int .i64 (im2p p)) w:=by
  intro w;rcases p with _|_|_|_|_|_|_|_|p<;>first|omega|kernel_rfl
 go_enter Tryz.func122,Tryz.ntmps122;go_wp2;all_goals go_ret
 all_goals exact⟨rfl,rfl⟩
theorem mOA (r p:Nat) (j:p < 8) (k0:((r:Int)==4)=true) (O:((p:Int)==2)=false) (k2:((p:Int)==5)=true) (w:World) :
  Calls Tryz.prog 122 #[.int .i64 r,.int .i64 p] w fun e w'=>e=.returned (.int .i64 (5))/\w=w':=by
 go_enter Tryz.func122,Tryz.ntmps122;go_wp2;all_goals go_ret
 all_goals exact⟨rfl,rfl⟩
theorem pOA (r p:Nat) (j:p < 8) (k0:((r:Int)==4)=true) (O:((p:Int)==2)=false) (k2:((p:Int)==5)=false) (T:((p:Int)==7)=true) (w:World) :
  Calls Tryz.prog 122 #[.int .i64 r,.int .i64 p] w fun e w'=>e=.returned (.int .i64 (8))/\w=w':=by
 go_enter Tryz.func122,Tryz.ntmps122;go_wp2;all_goals go_ret
 all_goals exact⟨rfl,rfl⟩
theorem sOA (r p:Nat) (j:p < 8) (k0:((r:Int)==4)=true) (O:((p:Int)==2)=false) (k2:((p:Int)==5)=false) (T:((p:Int)==7)=false) (w:World) :
  Calls Tryz.prog 122 #[.int .i64 r,.int .i64 p] w fun e w'=>e=.returned (.int .i64 (im2p p))/\w=w':=by
 have Q:∀ w:World,(Instr.index 162 (.agg #[.int .i64 2,.int .i64 3,.int .i64 0,.int .i64 6,.int .i64 (-1),.int .i64 4,.int .i64 0,.int .i64 7]) (.int .i64 p)).run Tryz.prog w=.ok (.int .i64 (im2p p)) w:=by
  intro w;rcases p with _|_|_|_|_|_|_|_|p<;>first|omega|kernel_rfl
 go_enter Tryz.func122,Tryz.ntmps122;go_wp2;all_goals go_ret
 all_goals exact⟨rfl,rfl⟩
theorem jOA (r p:Nat) (j:p < 8) (k0:((r:Int)==4)=false) (O:((r:Int)==5)=true) (k2:((p:Int)==2)=true) (T:¬ (r:Int) < 4) (k4:((p:Int)==5)=false) (k5:((p:Int)==7)=false) (w:World) :
  Calls Tryz.prog 122 #[.int .i64 r,.int .i64 p] w fun e w'=>e=.returned (.int .i64 (im2p p))/\w=w':=by
 have Q:∀ w:World,(Instr.index 162 (.agg #[.int .i64 2,.int .i64 3,.int .i64 0,.int .i64 6,.int .i64 (-1),.int .i64 4,.int .i64 0,.int .i64 7]) (.int .i64 p)).run Tryz.prog w=.ok (.int .i64 (im2p p)) w:=by
  intro w;rcases p with _|_|_|_|_|_|_|_|p<;>first|omega|kernel_rfl
 go_enter Tryz.func122,Tryz.ntmps122;go_wp2;all_goals go_ret
 all_goals exact⟨rfl,rfl⟩
theorem nOA (r p:Nat) (j:p < 8) (k0:((r:Int)==4)=false) (O:((r:Int)==5)=true) (k2:((p:Int)==2)=false) (T:((p:Int)==5)=true) (w:World) :
  Calls Tryz.prog 122 #[.int .i64 r,.int .i64 p] w fun e w'=>e=.returned (.int .i64 (5))/\w=w':=by
 go_enter Tryz.func122,Tryz.ntmps122;go_wp2;all_goals go_ret
 all_goals exact⟨rfl,rfl⟩
theorem qOA (r p:Nat) (j:p < 8) (k0:((r:Int)==4)=false) (O:((r:Int)==5)=true) (k2:((p:Int)==2)=false) (T:((p:Int)==5)=false) (k4:((p:Int)==7)=true) (w:World) :
  Calls Tryz.prog 122 #[.int .i64 r,.int .i64 p] w fun e w'=>e=.returned (.int .i64 (8))/\w=w':=by
 go_enter Tryz.func122,Tryz.ntmps122;go_wp2;all_goals go_ret
 all_goals exact⟨rfl,rfl⟩
theorem tOA (r p:Nat) (j:p < 8) (k0:((r:Int)==4)=false) (O:((r:Int)==5)=true) (k2:((p:Int)==2)=false) (T:((p:Int)==5)=false) (k4:((p:Int)==7)=false) (w:World) :
  Calls Tryz.prog 122 #[.int .i64 r,.int .i64 p] w fun e w'=>e=.returned (.int .i64 (im2p p))/\w=w':=by
 have Q:∀ w:World,(Instr.index 162 (.agg #[.int .i64 2,.int .i64 3,.int .i64 0,.int .i64 6,.int .i64 (-1),.int .i64 4,.int .i64 0,.int .i64 7]) (.int .i64 p)).run Tryz.prog w=.ok (.int .i64 (im2p p)) w:=by
  intro w;rcases p with _|_|_|_|_|_|_|_|p<;>first|omega|kernel_rfl
 go_enter Tryz.func122,Tryz.ntmps122;go_wp2;all_goals go_ret
 all_goals exact⟨rfl,rfl⟩
theorem lOA (r p:Nat) (j:p < 8) (k0:((r:Int)==4)=false) (O:((r:Int)==5)=false) (k2:((p:Int)==2)=true) (T:(r:Int) < 4) (w:World) :
  Calls Tryz.prog 122 #[.int .i64 r,.int .i64 p] w fun e w'=>e=.returned (.int .i64 (1))/\w=w':=by
 go_enter Tryz.func122,Tryz.ntmps122;go_wp2;all_goals go_ret
 all_goals exact⟨rfl,rfl⟩
theorem kOA (r p:Nat) (j:p < 8) (k0:((r:Int)==4)=false) (O:((r:Int)==5)=false) (k2:((p:Int)==2)=true) (T:¬ (r:Int) < 4) (k4:((p:Int)==5)=false) (k5:((p:Int)==7)=false) (w:World) :
  Calls Tryz.prog 122 #[.int .i64 r,.int .i64 p] w fun e w'=>e=.returned (.int .i64 (im2p p))/\w=w':=by
 have Q:∀ w:World,(Instr.index 162 (.agg #[.int .i64 2,.int .i64 3,.int .i64 0,.int .i64 6,.int .i64 (-1),.int .i64 4,.int .i64 0,.int .i64 7]) (.int .i64 p)).run Tryz.prog w=.ok (.int .i64 (im2p p)) w:=by
  intro w;rcases p with _|_|_|_|_|_|_|_|p<;>first|omega|kernel_rfl
 go_enter Tryz.func122,Tryz.ntmps122;go_wp2;all_goals go_ret
 all_goals exact⟨rfl,rfl⟩
theorem oOA (r p:Nat) (j:p < 8) (k0:((r:Int)==4)=false) (O:((r:Int)==5)=false) (k2:((p:Int)==2)=false) (T:((p:Int)==5)=true) (k4:((p:Int)==7)=false) (w:World) :
  Calls Tryz.prog 122 #[.int .i64 r,.int .i64 p] w fun e w'=>e=.returned (.int .i64 (im2p p))/\w=w':=by
 have Q:∀ w:World,(Instr.index 162 (.agg #[.int .i64 2,.int .i64 3,.int .i64 0,.int .i64 6,.int .i64 (-1),.int .i64 4,.int .i64 0,.int .i64 7]) (.int .i64 p)).run Tryz.prog w=.ok (.int .i64 (im2p p)) w:=by
  intro w;rcases p with _|_|_|_|_|_|_|_|p<;>first|omega|kernel_rfl
 go_enter Tryz.func122,Tryz.ntmps122;go_wp2;all_goals go_ret
 all_goals exact⟨rfl,rfl⟩
theorem rOA (r p:Nat) (j:p < 8) (k0:((r:Int)==4)=false) (O:((r:Int)==5)=false) (k2:((p:Int)==2)=false) (T:((p:Int)==5)=false) (k4:((p:Int)==7)=true) (w:World) :
  Calls Tryz.prog 122 #[.int .i64 r,.int .i64 p] w fun e w'=>e=.returned (.int .i64 (im2p p))/\w=w':=by
 have Q:∀ w:World,(Instr.index 162 (.agg #[.int .i64 2,.int .i64 3,.int .i64 0,.int .i64 6,.int .i64 (-1),.int .i64 4,.int .i64 0,.int .i64 7]) (.int .i64 p)).run Tryz.prog w=.ok (.int .i64 (im2p p)) w:=by
  intro w;rcases p with _|_|_|_|_|_|_|_|p<;>first|omega|kernel_rfl
 go_enter Tryz.func122,Tryz.ntmps122;go_wp2;all_goals go_ret
 all_goals exact⟨rfl,rfl⟩
theorem uOA (r p:Nat) (j:p < 8) (k0:((r:Int)==4)=false) (O:((r:Int)==5)=false) (k2:((p:Int)==2)=false) (T:((p:Int)==5)=false) (k4:((p:Int)==7)=false) (w:World) :
  Calls Tryz.prog 122 #[.int .i64 r,.int .i64 p] w fun e w'=>e=.returned (.int .i64 (im2p p))/\w=w':=by
 have Q:∀ w:World,(Instr.index 162 (.agg #[.int .i64 2,.int .i64 3,.int .i64 0,.int .i64 6,.int .i64 (-1),.int .i64 4,.int .i64 0,.int .i64 7]) (.int .i64 p)).run Tryz.prog w=.ok (.int .i64 (im2p p)) w:=by
  intro w;rcases p with _|_|_|_|_|_|_|_|p<;>first|omega|kernel_rfl
 go_enter Tryz.func122,Tryz.ntmps122;go_wp2;all_goals go_ret
 all_goals exact⟨rfl,rfl⟩
theorem xMA (r p:Nat) (_hr:r < 8) (j:p < 8) (w:World) :
  Calls Tryz.prog 122 #[.int .i64 r,.int .i64 p] w fun e w'=>e=.returned (.int .i64 (im2 r p))/\w=w':=by
 by_cases h4:r=4
 ·by_cases p2:p=2
  ·simpa [im2,h4,p2] using iOA r p j qQ qQ dQ qQ qQ w
  by_cases H:p=5
  ·simpa [im2,h4,H] using mOA r p j qQ qQ qQ w
  by_cases p7:p=7
  ·simpa [im2,h4,p7] using pOA r p j qQ qQ qQ qQ w
  ·simpa [im2,h4,p2,H,p7] using sOA r p j qQ qQ qQ qQ w
 by_cases h5:r=5
 ·by_cases p2:p=2
  ·simpa [im2,h5,p2] using jOA r p j qQ qQ qQ dQ qQ qQ w
  by_cases H:p=5
  ·simpa [im2,h5,H] using nOA r p j qQ qQ qQ qQ w
  by_cases p7:p=7
  ·simpa [im2,h5,p7] using qOA r p j qQ qQ qQ qQ qQ w
  ·simpa [im2,h5,p2,H,p7] using tOA r p j qQ qQ qQ qQ qQ w
 by_cases p2:p=2
 ·by_cases hl:r < 4
  ·simpa [im2,hl,p2] using lOA r p j qQ qQ qQ dQ w
  ·simpa [im2,hl,p2] using kOA r p j qQ qQ qQ dQ qQ qQ w
 by_cases H:p=5
 ·simpa [im2,h4,h5,H] using oOA r p j qQ qQ qQ qQ qQ w
 by_cases p7:p=7
 ·simpa [im2,h4,h5,p7] using rOA r p j qQ qQ qQ qQ qQ w
 ·simpa [im2,h4,h5,p2,H,p7] using uOA r p j qQ qQ qQ qQ qQ w
theorem vLA (r p s:Nat) (hr:r < 8) (j:p < 8) (w:World) :
  Calls Tryz.prog 88 #[.int .i64 r,.int .i64 p,.int .i64 s] w fun e w'=>e=.returned (.int .i64 (imAt r p s))/\w=w':=by
 have Q:∀ w:World,(Instr.index 162 (.agg #[.int .i64 10,.int .i64 3,.int .i64 2,.int .i64 6,.int .i64 11,.int .i64 4,.int .i64 8,.int .i64 7]) (.int .i64 p)).run Tryz.prog w=.ok (.int .i64 (lGA p)) w:=by
  intro w;rcases p with _|_|_|_|_|_|_|_|p<;>first|omega|kernel_rfl
 cases k0:((s:Int)==0) with
 | true=>
  have h0:s=0:=mQi;go_enter Tryz.func88,Tryz.ntmps88;go_wp2_with fail;refine (wMA r p hr j _).mono ?_;rintro e w' ⟨rfl,rfl⟩;go_wp2;go_ret;exact⟨by simp[imAt,h0],rfl⟩
 | false=>
  have h0:¬ s=0:=mQi;cases O:((s:Int)==1) with
  | true=>
   have h1:s=1:=by simp at O;omega
   go_enter Tryz.func88,Tryz.ntmps88;go_wp2;go_ret;exact⟨by simp[imAt,h1],rfl⟩
  | false=>
   have h1:¬ s=1:=by simp at O;omega
   go_enter Tryz.func88,Tryz.ntmps88;go_wp2_with fail;refine (xMA r p hr j _).mono ?_;rintro e w' ⟨rfl,rfl⟩;go_wp2;go_ret;exact⟨by simp[imAt,h0,h1],rfl⟩
theorem rIA (b:Nat) (hb:b < 256) (w:World) :
  Calls Tryz.prog 86 #[.int .i64 b] w fun e w'=>e=.returned (.tuple #[.int .i64 ((b / 32:Nat):Int),.int .i64 ((b / 4 % 8:Nat):Int),.int .i64 ((b % 4:Nat):Int)])/\w=w':=by
 go_enter Tryz.func86,Tryz.ntmps86;go_wp2;exact bodyPost_ret (v:=.tuple #[.int .i64 ((b / 32:Nat):Int),.int .i64 ((b / 4 % 8:Nat):Int),.int .i64 ((b % 4:Nat):Int)]) (by simp[results,Tryz.results86,go_sem]) rfl ⟨rfl,rfl⟩

end Go.Proofs.YtckfdbjjjgfbfaaGreat
