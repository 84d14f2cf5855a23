import Derived.Test.YtckfdbjjjgfbfaaGreatVPlayU
import Derived.Test.YtckfdbjjjgfbfaaGreatVPlayS
set_option linter.unusedVariables false
set_option linter.unusedSimpArgs false
set_option maxRecDepth 100000
namespace Go.Proofs.YtckfdbjjjgfbfaaGreat
open Go.RowKit
theorem Play.jump_ind {F:Nat->Prop} {w W:World} {P:Nat} {o:Option Nat} {k:OpK} {s:St} {N:Nat} (p:Play F w W P o k s N) (hm:k.md=9) (hN:N<=82) {s':St} (hs:s.jumpP 9=s') :
  Calls Tryz.prog 167 #[.pointer (some ⟨P,0,none⟩)] W fun e w'=>e=.returned (.tuple #[])/\Play F w w' P o k s' (N+4):=by
 obtain⟨hA,hX,hY,hS,hP⟩:=p.pl.ok;obtain⟨z1,hz1⟩:∃ j,s.fetchW.1=j:=⟨_,rfl⟩;obtain⟨Q,hs1⟩:∃ j,s.fetchW.2=j:=⟨_,rfl⟩;have a2:z1 < 65536:=pQe;obtain⟨z2,a4⟩:∃ j,(Q.readW z1).1=j:=⟨_,rfl⟩;obtain⟨s2,K⟩:∃ j,(Q.readW z1).2=j:=⟨_,rfl⟩;have r:(⟨{ s2.c with PC:=z2 },s2.b⟩:St)=s':=by rw[<-hs,<-K,<-a4,<-hs1,<-hz1];rfl
 have E:=j_ r;clear hs r;have Hz1:=j_ hz1;have O:=j_ hs1;have Hz2:=j_ a4;have T:=j_ K;clear hz1 hs1 a4 K;go_enter Tryz.func167,Tryz.ntmps167;go_wp2_with fail;refine (p.fetchW dQ Hz1.out O.out).mono ?_;rintro e w1 ⟨rfl,p2⟩;obtain⟨g0,g1,g2,g3,g4,g5,g6,g7,g8,g9,g10,H,l,z,J,U⟩:=p2.cells;rw[hm] at z;have a5:z2 < 65536:=by rw[<-Hz2.out];exact dEA (p2.byte _) (p2.byte _)
 go_wp2_with fail;refine (p2.readW _ z1 rfl a2 dQ Hz2.out T.out).mono ?_;rintro e w3 ⟨rfl,p4⟩;clear g0 g1 g2 g3 g4 g5 g6 g7 g8 g9 g10 H l z J U;clear p2;obtain⟨g0,g1,g2,g3,g4,g5,g6,g7,g8,g9,g10,H,l,z,J,U⟩:=p4.cells;go_wp2
 (try simp only[Exit.inBlock,Exit.then])
 first|refine bodyPost_ret (results_none rfl _ _ _) rfl ?_|refine bodyPost_end (results_none rfl _ _ _) rfl ?_
 refine⟨rfl,?_⟩;exact p4.setPC _ z2 rfl a5 E.out
theorem Play.jump_abs {F:Nat->Prop} {w W:World} {P:Nat} {o:Option Nat} {k:OpK} {s:St} {N:Nat} (p:Play F w W P o k s N) (hm:k.md=6) (hN:N<=86) {s':St} (hs:s.jumpP 6=s') :
  Calls Tryz.prog 167 #[.pointer (some ⟨P,0,none⟩)] W fun e w'=>e=.returned (.tuple #[])/\Play F w w' P o k s' (N+2):=by
 obtain⟨hA,hX,hY,hS,hP⟩:=p.pl.ok;obtain⟨z1,hz1⟩:∃ j,s.fetchW.1=j:=⟨_,rfl⟩;obtain⟨Q,hs1⟩:∃ j,s.fetchW.2=j:=⟨_,rfl⟩;have a2:z1 < 65536:=pQe;have r:(⟨{ Q.c with PC:=z1 },Q.b⟩:St)=s':=by rw[<-hs,<-hs1,<-hz1];rfl
 have E:=j_ r;clear hs r;have Hz1:=j_ hz1;have O:=j_ hs1;clear hz1 hs1;go_enter Tryz.func167,Tryz.ntmps167;go_wp2_with fail;refine (p.fetchW dQ Hz1.out O.out).mono ?_;rintro e w1 ⟨rfl,p2⟩;obtain⟨g0,g1,g2,g3,g4,g5,g6,g7,g8,g9,g10,H,l,z,J,U⟩:=p2.cells;rw[hm] at z;go_wp2
 (try simp only[Exit.inBlock,Exit.then])
 first|refine bodyPost_ret (results_none rfl _ _ _) rfl ?_|refine bodyPost_end (results_none rfl _ _ _) rfl ?_
 refine⟨rfl,?_⟩;exact p2.setPC _ z1 rfl a2 E.out
theorem Play.playSub {F:Nat->Prop} {w W:World} {P:Nat} {o:Option Nat} {k:OpK} {s:St} {N:Nat} (p:Play F w W P o k s N) (hN:N<=80) {s':St} (hs:s.subP=s') :
  Calls Tryz.prog 168 #[.pointer (some ⟨P,0,none⟩)] W fun e w'=>e=.returned (.tuple #[])/\Play F w w' P o k s' (N+5):=by
 obtain⟨hA,hX,hY,hS,hP⟩:=p.pl.ok;obtain⟨z1,hz1⟩:∃ j,s.fetch.1=j:=⟨_,rfl⟩;obtain⟨Q,hs1⟩:∃ j,s.fetch.2=j:=⟨_,rfl⟩;obtain⟨s2,K⟩:∃ j,Q.idleStk=j:=⟨_,rfl⟩;obtain⟨s3,R⟩:∃ j,s2.pushPC=j:=⟨_,rfl⟩;obtain⟨q,hq⟩:∃ j,s3.c.PC=j:=⟨_,rfl⟩;obtain⟨z2,a4⟩:∃ j,s3.b.get q=j:=⟨_,rfl⟩;obtain⟨b4,hb4⟩:∃ j,s3.b.rd q=j:=⟨_,rfl⟩;obtain⟨x,hx⟩:∃ j,word z1 z2=j:=⟨_,rfl⟩;have a2:z1 < 256:=uQd;have r:(⟨{ s3.c with PC:=x },b4⟩:St)=s':=by rw[<-hs,<-hx,<-hb4,<-a4,<-hq,<-R,<-K,<-hs1,<-hz1];rfl
 have E:=j_ r;clear hs r;have Hz1:=j_ hz1;have O:=j_ hs1;have T:=j_ K;have a0:=j_ R;have Hq:=j_ hq;have Hz2:=j_ a4;have a8:=j_ hb4;have Hx:=j_ hx;clear hz1 hs1 K R hq a4 hb4 hx;obtain⟨b5,b6⟩:=methR;rcases o with _|B
 ·go_enter Tryz.func168,Tryz.ntmps168;go_wp2_with fail;refine (p.fetch dQ Hz1.out O.out).mono ?_;rintro e w1 ⟨rfl,p2⟩;go_wp2_with fail;refine (p2.idleStk dQ T.out).mono ?_;rintro e w3 ⟨rfl,p4⟩;clear p2;go_wp2_with fail;refine (p4.pushPC dQ a0.out).mono ?_;rintro e w5 ⟨rfl,p6⟩;clear p4;have qb:q < 65536:=by rw[<-Hq.out];exact p6.pl.ok.2.2.2.2
  have a5:z2 < 256:=by rw[<-Hz2.out];exact p6.byte _
  have xb:x < 65536:=by rw[<-Hx.out];exact dEA a2 a5
  obtain⟨g0,g1,g2,g3,g4,g5,g6,g7,g8,g9,g10,H,l,z,J,U⟩:=p6.cells;rw[Hq.out] at g4;go_wp2_with fail;go_still_tail 11,gQ;change wpList _ _ _ _ _ w5.drew;have p7:=p6.drew;clear g0 g1 g2 g3 g4 g5 g6 g7 g8 g9 g10 H l z J U;clear p6;generalize w5.drew=W8 at p7 ⊢;go_wp2_with fail;refine (p7.read _ q rfl qb dQ Hz2.out (s':=⟨s3.c,b4⟩) (by rw[<-a8.out])).mono ?_;rintro e w9 ⟨rfl,a1⟩;clear p7;go_wp2_with fail;refine (zFA z1 z2 a2 a5 Hx.out _).mono ?_;rintro e b2 ⟨rfl,rfl⟩;obtain⟨g0,g1,g2,g3,g4,g5,g6,g7,g8,g9,g10,H,l,z,J,U⟩:=a1.cells;go_wp2
  (try simp only[Exit.inBlock,Exit.then])
  first|refine bodyPost_ret (results_none rfl _ _ _) rfl ?_|refine bodyPost_end (results_none rfl _ _ _) rfl ?_
  refine⟨rfl,?_⟩;exact a1.setPC _ x rfl xb E.out
 ·go_enter Tryz.func168,Tryz.ntmps168;go_wp2_with fail;refine (p.fetch dQ Hz1.out O.out).mono ?_;rintro e w1 ⟨rfl,p2⟩;go_wp2_with fail;refine (p2.idleStk dQ T.out).mono ?_;rintro e w3 ⟨rfl,p4⟩;clear p2;go_wp2_with fail;refine (p4.pushPC dQ a0.out).mono ?_;rintro e w5 ⟨rfl,p6⟩;clear p4;have qb:q < 65536:=by rw[<-Hq.out];exact p6.pl.ok.2.2.2.2
  have a5:z2 < 256:=by rw[<-Hz2.out];exact p6.byte _
  have xb:x < 65536:=by rw[<-Hx.out];exact dEA a2 a5
  obtain⟨g0,g1,g2,g3,g4,g5,g6,g7,g8,g9,g10,H,l,z,J,U⟩:=p6.cells;rw[Hq.out] at g4;go_wp2_with fail;go_still_tail 11,gQ;change wpList _ _ _ _ _ w5.drew;have p7:=p6.drew;clear g0 g1 g2 g3 g4 g5 g6 g7 g8 g9 g10 H l z J U;clear p6;generalize w5.drew=W8 at p7 ⊢;go_wp2_with fail;refine (p7.read _ q rfl qb dQ Hz2.out (s':=⟨s3.c,b4⟩) (by rw[<-a8.out])).mono ?_;rintro e w9 ⟨rfl,a1⟩;clear p7;go_wp2_with fail;refine (zFA z1 z2 a2 a5 Hx.out _).mono ?_;rintro e b2 ⟨rfl,rfl⟩;obtain⟨g0,g1,g2,g3,g4,g5,g6,g7,g8,g9,g10,H,l,z,J,U⟩:=a1.cells;go_wp2
  (try simp only[Exit.inBlock,Exit.then])
  first|refine bodyPost_ret (results_none rfl _ _ _) rfl ?_|refine bodyPost_end (results_none rfl _ _ _) rfl ?_
  refine⟨rfl,?_⟩;exact a1.setPC _ x rfl xb E.out
theorem Play.playBack {F:Nat->Prop} {w W:World} {P:Nat} {o:Option Nat} {k:OpK} {s:St} {N:Nat} (p:Play F w W P o k s N) (hN:N<=80) {s':St} (hs:s.backP=s') :
  Calls Tryz.prog 169 #[.pointer (some ⟨P,0,none⟩)] W fun e w'=>e=.returned (.tuple #[])/\Play F w w' P o k s' (N+5):=by
 obtain⟨hA,hX,hY,hS,hP⟩:=p.pl.ok;obtain⟨Q,hs1⟩:∃ j,s.idle=j:=⟨_,rfl⟩;obtain⟨s2,K⟩:∃ j,Q.idleStk=j:=⟨_,rfl⟩;obtain⟨s3,R⟩:∃ j,s2.pullPC=j:=⟨_,rfl⟩;obtain⟨s4,a3⟩:∃ j,s3.fetch.2=j:=⟨_,rfl⟩;have r:s4=s':=by rw[<-hs,<-a3,<-R,<-K,<-hs1];rfl
 subst r;clear hs;have O:=j_ hs1;have T:=j_ K;have a0:=j_ R;have a6:=j_ a3;clear hs1 K R a3;go_enter Tryz.func169,Tryz.ntmps169;go_wp2_with fail;refine (p.idle dQ O.out).mono ?_;rintro e w1 ⟨rfl,p2⟩;go_wp2_with fail;refine (p2.idleStk dQ T.out).mono ?_;rintro e w3 ⟨rfl,p4⟩;clear p2;go_wp2_with fail;refine (p4.pullPC dQ a0.out).mono ?_;rintro e w5 ⟨rfl,p6⟩;clear p4;go_wp2_with fail;refine (p6.fetch dQ rfl a6.out).mono ?_;rintro e w7 ⟨rfl,p8⟩;clear p6;go_wp2
 (try simp only[Exit.inBlock,Exit.then])
 first|refine bodyPost_ret (results_none rfl _ _ _) rfl ?_|refine bodyPost_end (results_none rfl _ _ _) rfl ?_
 refine⟨rfl,?_⟩;exact p8
theorem Play.playRti {F:Nat->Prop} {w W:World} {P:Nat} {o:Option Nat} {k:OpK} {s:St} {N:Nat} (p:Play F w W P o k s N) (hN:N<=80) {s':St} (hs:s.rtiP=s') :
  Calls Tryz.prog 170 #[.pointer (some ⟨P,0,none⟩)] W fun e w'=>e=.returned (.tuple #[])/\Play F w w' P o k s' (N+5):=by
 obtain⟨hA,hX,hY,hS,hP⟩:=p.pl.ok;obtain⟨Q,hs1⟩:∃ j,s.idle=j:=⟨_,rfl⟩;obtain⟨s2,K⟩:∃ j,Q.idleStk=j:=⟨_,rfl⟩;obtain⟨d,hd⟩:∃ j,s2.pull.1=j:=⟨_,rfl⟩;obtain⟨s3,R⟩:∃ j,s2.pull.2=j:=⟨_,rfl⟩;obtain⟨s4,a3⟩:∃ j,(⟨s3.c.unpack d,s3.b⟩:St)=j:=⟨_,rfl⟩;obtain⟨s5,a7⟩:∃ j,s4.pullPC=j:=⟨_,rfl⟩;have r:s5=s':=by rw[<-hs,<-a7,<-a3,<-R,<-hd,<-K,<-hs1];rfl
 subst r;clear hs;have O:=j_ hs1;have T:=j_ K;have Hd:=j_ hd;have a0:=j_ R;have a6:=j_ a3;have b1:=j_ a7;clear hs1 K hd R a3 a7;go_enter Tryz.func170,Tryz.ntmps170;go_wp2_with fail;refine (p.idle dQ O.out).mono ?_;rintro e w1 ⟨rfl,p2⟩;go_wp2_with fail;refine (p2.idleStk dQ T.out).mono ?_;rintro e w3 ⟨rfl,p4⟩;clear p2;go_wp2_with fail;refine (p4.pull dQ Hd.out a0.out).mono ?_;rintro e w5 ⟨rfl,p6⟩;clear p4;go_wp2_with fail;refine (oHA _ _).mono ?_;rintro e w7 ⟨rfl,d8⟩;have p9:=p6.below d8;clear d8 p6;obtain⟨g0,g1,g2,g3,g4,g5,g6,g7,g8,g9,g10,H,l,z,J,U⟩:=p9.cells;go_wp2_with fail;have a1:=p9.flags (hasB d 128) (hasB d 64) (hasB d 8) (hasB d 4) (hasB d 2) (hasB d 1) (s':=s4) a6.out;clear g0 g1 g2 g3 g4 g5 g6 g7 g8 g9 g10 H l z J U;clear p9;generalize ((((((w7.setCell ⟨P,5,none⟩ (.bool (hasB d 128))).setCell ⟨P,6,none⟩ (.bool (hasB d 64))).setCell ⟨P,7,none⟩ (.bool (hasB d 8))).setCell ⟨P,8,none⟩ (.bool (hasB d 4))).setCell ⟨P,9,none⟩ (.bool (hasB d 2))).setCell ⟨P,10,none⟩ (.bool (hasB d 1)))=b3 at a1 ⊢;refine (a1.pullPC dQ b1.out).mono ?_;rintro e b7 ⟨rfl,p13⟩;clear a1;go_wp2
 (try simp only[Exit.inBlock,Exit.then])
 first|refine bodyPost_ret (results_none rfl _ _ _) rfl ?_|refine bodyPost_end (results_none rfl _ _ _) rfl ?_
 refine⟨rfl,?_⟩;exact p13
theorem Play.playBrk {F:Nat->Prop} {w W:World} {P:Nat} {o:Option Nat} {k:OpK} {s:St} {N:Nat} (p:Play F w W P o k s N) (hN:N<=78) {s':St} (hs:s.brkP=s') :
  Calls Tryz.prog 171 #[.pointer (some ⟨P,0,none⟩)] W fun e w'=>e=.returned (.tuple #[])/\Play F w w' P o k s' (N+6):=by
 obtain⟨hA,hX,hY,hS,hP⟩:=p.pl.ok;obtain⟨Q,hs1⟩:∃ j,s.fetch.2=j:=⟨_,rfl⟩;have r:Q.inter 65534 true=s':=by rw[<-hs,<-hs1];rfl
 have E:=j_ r;clear hs r;have O:=j_ hs1;clear hs1;go_enter Tryz.func171,Tryz.ntmps171;go_wp2_with fail;refine (p.fetch dQ rfl O.out).mono ?_;rintro e w1 ⟨rfl,p2⟩;go_wp2_with fail;refine (p2.inter 65534 dQ true dQ E.out).mono ?_;rintro e w3 ⟨rfl,p4⟩;clear p2;go_wp2
 (try simp only[Exit.inBlock,Exit.then])
 first|refine bodyPost_ret (results_none rfl _ _ _) rfl ?_|refine bodyPost_end (results_none rfl _ _ _) rfl ?_
 refine⟨rfl,?_⟩;exact p4
theorem Play.push_PHP {F:Nat->Prop} {w W:World} {P:Nat} {o:Option Nat} {k:OpK} {s:St} {N:Nat} (p:Play F w W P o k s N) (hk:k.nm=⟨#[80,72,80]⟩) (hN:N<=86) {s':St} (hs:s.pushP [80,72,80]=s') :
  Calls Tryz.prog 172 #[.pointer (some ⟨P,0,none⟩)] W fun e w'=>e=.returned (.tuple #[])/\Play F w w' P o k s' (N+2):=by
 obtain⟨hA,hX,hY,hS,hP⟩:=p.pl.ok;obtain⟨Q,hs1⟩:∃ j,s.idle=j:=⟨_,rfl⟩;obtain⟨d,hd⟩:∃ j,Q.c.pk true=j:=⟨_,rfl⟩;have r:Q.push d=s':=by rw[<-hs,<-hd,<-hs1];simp[St.pushP]
 have a9:pkV Q.c.N Q.c.V true Q.c.D Q.c.I Q.c.Z Q.c.C=(d:Int):=by rw[<-hd];have:=(eGA Q.c.N Q.c.V true Q.c.D Q.c.I Q.c.Z Q.c.C).1;unfold CpuN.pk;omega
 have db:d < 256:=by have:=(eGA Q.c.N Q.c.V true Q.c.D Q.c.I Q.c.Z Q.c.C).2;omega
 have HD:=j_ a9;clear a9;have E:=j_ r;clear hs r;have O:=j_ hs1;have Hd:=j_ hd;clear hs1 hd;go_enter Tryz.func172,Tryz.ntmps172;go_wp2_with fail;refine (p.idle dQ O.out).mono ?_;rintro e w1 ⟨rfl,p2⟩;obtain⟨g0,g1,g2,g3,g4,g5,g6,g7,g8,g9,g10,H,l,z,J,U⟩:=p2.cells;rw[hk] at l;go_wp2_with fail;refine (qIA _ _ _ _ _ _ _ _).mono ?_;rintro e w3 ⟨rfl,d4⟩;have p5:=p2.below d4;clear g0 g1 g2 g3 g4 g5 g6 g7 g8 g9 g10 H l z J U;clear d4 p2;rw[HD.out];go_wp2_with fail;refine (p5.push _ d rfl db dQ E.out).mono ?_;rintro e w6 ⟨rfl,p7⟩;clear p5;go_wp2
 (try simp only[Exit.inBlock,Exit.then])
 first|refine bodyPost_ret (results_none rfl _ _ _) rfl ?_|refine bodyPost_end (results_none rfl _ _ _) rfl ?_
 refine⟨rfl,?_⟩;exact p7
theorem Play.push_PHA {F:Nat->Prop} {w W:World} {P:Nat} {o:Option Nat} {k:OpK} {s:St} {N:Nat} (p:Play F w W P o k s N) (hk:k.nm=⟨#[80,72,65]⟩) (hN:N<=86) {s':St} (hs:s.pushP [80,72,65]=s') :
  Calls Tryz.prog 172 #[.pointer (some ⟨P,0,none⟩)] W fun e w'=>e=.returned (.tuple #[])/\Play F w w' P o k s' (N+2):=by
 obtain⟨hA,hX,hY,hS,hP⟩:=p.pl.ok;obtain⟨Q,hs1⟩:∃ j,s.idle=j:=⟨_,rfl⟩;obtain⟨d,hd⟩:∃ j,Q.c.A=j:=⟨_,rfl⟩;have r:Q.push d=s':=by rw[<-hs,<-hd,<-hs1];simp[St.pushP]
 have db:d < 256:=by rw[<-hd,<-hs1];exact hA
 have E:=j_ r;clear hs r;have O:=j_ hs1;have Hd:=j_ hd;clear hs1 hd;go_enter Tryz.func172,Tryz.ntmps172;go_wp2_with fail;refine (p.idle dQ O.out).mono ?_;rintro e w1 ⟨rfl,p2⟩;obtain⟨g0,g1,g2,g3,g4,g5,g6,g7,g8,g9,g10,H,l,z,J,U⟩:=p2.cells;rw[hk] at l;rw[Hd.out] at g0;go_wp2_with fail;refine (p2.push _ d rfl db dQ E.out).mono ?_;rintro e w3 ⟨rfl,p4⟩;clear g0 g1 g2 g3 g4 g5 g6 g7 g8 g9 g10 H l z J U;clear p2;go_wp2
 (try simp only[Exit.inBlock,Exit.then])
 first|refine bodyPost_ret (results_none rfl _ _ _) rfl ?_|refine bodyPost_end (results_none rfl _ _ _) rfl ?_
 refine⟨rfl,?_⟩;exact p4
theorem Play.pull_PLP {F:Nat->Prop} {w W:World} {P:Nat} {o:Option Nat} {k:OpK} {s:St} {N:Nat} (p:Play F w W P o k s N) (hk:k.nm=⟨#[80,76,80]⟩) (hN:N<=84) {s':St} (hs:s.pullP [80,76,80]=s') :
  Calls Tryz.prog 173 #[.pointer (some ⟨P,0,none⟩)] W fun e w'=>e=.returned (.tuple #[])/\Play F w w' P o k s' (N+3):=by
 obtain⟨hA,hX,hY,hS,hP⟩:=p.pl.ok;obtain⟨Q,hs1⟩:∃ j,s.idle=j:=⟨_,rfl⟩;obtain⟨s2,K⟩:∃ j,Q.idleStk=j:=⟨_,rfl⟩;obtain⟨d,hd⟩:∃ j,s2.pull.1=j:=⟨_,rfl⟩;obtain⟨s3,R⟩:∃ j,s2.pull.2=j:=⟨_,rfl⟩;have r:(⟨s3.c.unpack d,s3.b⟩:St)=s':=by rw[<-hs,<-R,<-hd,<-K,<-hs1];simp[St.pullP]
 have E:=j_ r;clear hs r;have O:=j_ hs1;have T:=j_ K;have Hd:=j_ hd;have a0:=j_ R;clear hs1 K hd R;go_enter Tryz.func173,Tryz.ntmps173;go_wp2_with fail;refine (p.idle dQ O.out).mono ?_;rintro e w1 ⟨rfl,p2⟩;go_wp2_with fail;refine (p2.idleStk dQ T.out).mono ?_;rintro e w3 ⟨rfl,p4⟩;clear p2;have db:d < 256:=by rw[<-Hd.out];exact p4.byte _
 go_wp2_with fail;refine (p4.pull dQ Hd.out a0.out).mono ?_;rintro e w5 ⟨rfl,p6⟩;clear p4;obtain⟨g0,g1,g2,g3,g4,g5,g6,g7,g8,g9,g10,H,l,z,J,U⟩:=p6.cells;rw[hk] at l;go_wp2_with fail;refine (oHA _ _).mono ?_;rintro e w7 ⟨rfl,d8⟩;have p9:=p6.below d8;clear g0 g1 g2 g3 g4 g5 g6 g7 g8 g9 g10 H l z J U;clear d8 p6;obtain⟨g0,g1,g2,g3,g4,g5,g6,g7,g8,g9,g10,H,l,z,J,U⟩:=p9.cells;go_wp2
 (try simp only[Exit.inBlock,Exit.then])
 first|refine bodyPost_ret (results_none rfl _ _ _) rfl ?_|refine bodyPost_end (results_none rfl _ _ _) rfl ?_
 refine⟨rfl,?_⟩;exact p9.flags _ _ _ _ _ _ E.out
theorem Play.pull_PLA {F:Nat->Prop} {w W:World} {P:Nat} {o:Option Nat} {k:OpK} {s:St} {N:Nat} (p:Play F w W P o k s N) (hk:k.nm=⟨#[80,76,65]⟩) (hN:N<=84) {s':St} (hs:s.pullP [80,76,65]=s') :
  Calls Tryz.prog 173 #[.pointer (some ⟨P,0,none⟩)] W fun e w'=>e=.returned (.tuple #[])/\Play F w w' P o k s' (N+3):=by
 obtain⟨hA,hX,hY,hS,hP⟩:=p.pl.ok;obtain⟨Q,hs1⟩:∃ j,s.idle=j:=⟨_,rfl⟩;obtain⟨s2,K⟩:∃ j,Q.idleStk=j:=⟨_,rfl⟩;obtain⟨d,hd⟩:∃ j,s2.pull.1=j:=⟨_,rfl⟩;obtain⟨s3,R⟩:∃ j,s2.pull.2=j:=⟨_,rfl⟩;have r:(⟨{ s3.c with A:=d,N:=bit7 (d:Nat),Z:=isZ (d:Nat) },s3.b⟩:St)=s':=by rw[<-hs,<-R,<-hd,<-K,<-hs1];simp[St.pullP,CpuN.nz]
 have E:=j_ r;clear hs r;have O:=j_ hs1;have T:=j_ K;have Hd:=j_ hd;have a0:=j_ R;clear hs1 K hd R;go_enter Tryz.func173,Tryz.ntmps173;go_wp2_with fail;refine (p.idle dQ O.out).mono ?_;rintro e w1 ⟨rfl,p2⟩;go_wp2_with fail;refine (p2.idleStk dQ T.out).mono ?_;rintro e w3 ⟨rfl,p4⟩;clear p2;have db:d < 256:=by rw[<-Hd.out];exact p4.byte _
 go_wp2_with fail;refine (p4.pull dQ Hd.out a0.out).mono ?_;rintro e w5 ⟨rfl,p6⟩;clear p4;obtain⟨g0,g1,g2,g3,g4,g5,g6,g7,g8,g9,g10,H,l,z,J,U⟩:=p6.cells;rw[hk] at l;go_wp2_with fail;have p7:=p6.setA _ (d) rfl db rfl;clear g0 g1 g2 g3 g4 g5 g6 g7 g8 g9 g10 H l z J U;clear p6;generalize w5.setCell ⟨P,0,none⟩ (.int .u8 ((d:Nat):Int))=W8 at p7 ⊢;obtain⟨g0,g1,g2,g3,g4,g5,g6,g7,g8,g9,g10,H,l,z,J,U⟩:=p7.cells;go_wp2_with fail;refine (iBA _ _ _ _ _ _ _ _ dQ dQ).mono ?_;rintro e w9 ⟨rfl,d10⟩;have b0:=p7.below d10;clear g0 g1 g2 g3 g4 g5 g6 g7 g8 g9 g10 H l z J U;clear d10 p7;obtain⟨g0,g1,g2,g3,g4,g5,g6,g7,g8,g9,g10,H,l,z,J,U⟩:=b0.cells;go_wp2
 (try simp only[Exit.inBlock,Exit.then])
 first|refine bodyPost_ret (results_none rfl _ _ _) rfl ?_|refine bodyPost_end (results_none rfl _ _ _) rfl ?_
 refine⟨rfl,?_⟩;exact b0.flags _ _ _ _ _ _ E.out

end Go.Proofs.YtckfdbjjjgfbfaaGreat
