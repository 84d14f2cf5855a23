import Derived.Test.YtckfdbjjjgfbfaaGreatRPhr
import Derived.Test.YtckfdbjjjgfbfaaGreatRPlayU
import Derived.Test.YtckfdbjjjgfbfaaGreatRPlayK
import Derived.Test.YtckfdbjjjgfbfaaGreatRPlayS
import Derived.Test.YtckfdbjjjgfbfaaGreatRPlayL2
set_option linter.unusedVariables false
set_option linter.unusedSimpArgs false
set_option maxRecDepth 100000
set_option maxHeartbeats 2000000
namespace Go.Proofs.YtckfdbjjjgfbfaaGreat
open Go.RowKit
theorem Play.place_2 {F:Nat->Prop} {w W:World} {P:Nat} {o:Option Nat} {k:OpK} {s:St} {N:Nat} (p:Play F w W P o k s N) (hk:k.md=2) (hN:N<=90) {z:Nat} {s':St} (hz:(s.place 2 k.kd).1=z) (hs:(s.place 2 k.kd).2=s') :
  Calls Tryz.prog 179 #[.pointer (some ⟨P,0,none⟩)] W fun e w'=>e=.returned (.int .u16 (z:Int))/\Play F w w' P o k s' (N+0):=by
 obtain⟨hA,hX,hY,hS,hP⟩:=p.pl.ok;obtain⟨y,hy⟩:∃ Q,(s.c.PC+1) % 65536=Q:=⟨_,rfl⟩;have yb:y < 65536:=dQ;have e3:IntKind.u16.wrap ((s.c.PC:Int)+1)=(y:Int):=sQg;have e4:IntKind.u16.wrap ((y:Int) - 1)=(s.c.PC:Int):=sQg;have R:s.c.PC=z:=by rw[<-hz];rfl
 have O:(⟨{ s.c with PC:=y },s.b⟩:St)=s':=by rw[<-hs,<-hy];rfl
 have T:=hQ R;have K:=hQ O;clear hz hs R O;have Hy:=hQ hy;clear hy;go_enter Tryz.func179,Tryz.ntmps179;obtain⟨g0,g1,g2,g3,g4,g5,g6,g7,g8,g9,g10,H,E,j,J,gf⟩:=p.cells;rw[hk] at j;go_wp2_with fail;have p1:=p.setPC _ (y) rfl dQ rfl;clear g0 g1 g2 g3 g4 g5 g6 g7 g8 g9 g10 H E j J gf;generalize W.setCell ⟨P,4,none⟩ (.int .u16 ((y:Nat):Int))=W2 at p1 ⊢;obtain⟨g0,g1,g2,g3,g4,g5,g6,g7,g8,g9,g10,H,E,j,J,gf⟩:=p1.cells;rw[hk] at j;go_wp2;go_ret;refine⟨?_,by rw[<-K.out];exact p1⟩;first|(rw[<-T.out];done)|rfl|exact congrArg (fun v=>Ending.returned (Value.int .u16 v)) (by have:=T.out;omega)
theorem Play.place_3 {F:Nat->Prop} {w W:World} {P:Nat} {o:Option Nat} {k:OpK} {s:St} {N:Nat} (p:Play F w W P o k s N) (hk:k.md=3) (hN:N<=88) {z:Nat} {s':St} (hz:(s.place 3 k.kd).1=z) (hs:(s.place 3 k.kd).2=s') :
  Calls Tryz.prog 179 #[.pointer (some ⟨P,0,none⟩)] W fun e w'=>e=.returned (.int .u16 (z:Int))/\Play F w w' P o k s' (N+1):=by
 obtain⟨hA,hX,hY,hS,hP⟩:=p.pl.ok;obtain⟨z1,hz1⟩:∃ Q,s.fetch.1=Q:=⟨_,rfl⟩;obtain⟨s1,hs1⟩:∃ Q,s.fetch.2=Q:=⟨_,rfl⟩;have a5:z1 < 256:=lQd;have R:z1=z:=by rw[<-hz1];exact hz
 have O:s1=s':=by rw[<-hs1];exact hs
 subst R;subst O;clear hz hs;have e3:IntKind.u16.wrap (z1:Int)=(z1:Int):=sQg;have Hz1:=hQ hz1;have a1:=hQ hs1;clear hz1 hs1;go_enter Tryz.func179,Tryz.ntmps179;obtain⟨g0,g1,g2,g3,g4,g5,g6,g7,g8,g9,g10,H,E,j,J,gf⟩:=p.cells;rw[hk] at j;go_wp2_with fail;refine (p.fetch dQ Hz1.out a1.out).mono ?_;rintro e w1 ⟨rfl,p2⟩;clear g0 g1 g2 g3 g4 g5 g6 g7 g8 g9 g10 H E j J gf;go_wp2;go_ret;refine⟨rfl,?_⟩;exact p2
theorem Play.place_4 {F:Nat->Prop} {w W:World} {P:Nat} {o:Option Nat} {k:OpK} {s:St} {N:Nat} (p:Play F w W P o k s N) (hk:k.md=4) (hN:N<=86) {z:Nat} {s':St} (hz:(s.place 4 k.kd).1=z) (hs:(s.place 4 k.kd).2=s') :
  Calls Tryz.prog 179 #[.pointer (some ⟨P,0,none⟩)] W fun e w'=>e=.returned (.int .u16 (z:Int))/\Play F w w' P o k s' (N+2):=by
 obtain⟨hA,hX,hY,hS,hP⟩:=p.pl.ok;have R:(s.zero s.c.X).1=z:=hz;have O:(s.zero s.c.X).2=s':=hs;have T:=hQ R;have K:=hQ O;clear hz hs R O;go_enter Tryz.func179,Tryz.ntmps179;obtain⟨g0,g1,g2,g3,g4,g5,g6,g7,g8,g9,g10,H,E,j,J,gf⟩:=p.cells;rw[hk] at j;go_wp2_with fail;refine (p.zero _ s.c.X rfl hX dQ T.out K.out).mono ?_;rintro e w1 ⟨rfl,p2⟩;clear g0 g1 g2 g3 g4 g5 g6 g7 g8 g9 g10 H E j J gf;go_wp2;go_ret;refine⟨rfl,?_⟩;exact p2
theorem Play.place_5 {F:Nat->Prop} {w W:World} {P:Nat} {o:Option Nat} {k:OpK} {s:St} {N:Nat} (p:Play F w W P o k s N) (hk:k.md=5) (hN:N<=86) {z:Nat} {s':St} (hz:(s.place 5 k.kd).1=z) (hs:(s.place 5 k.kd).2=s') :
  Calls Tryz.prog 179 #[.pointer (some ⟨P,0,none⟩)] W fun e w'=>e=.returned (.int .u16 (z:Int))/\Play F w w' P o k s' (N+2):=by
 obtain⟨hA,hX,hY,hS,hP⟩:=p.pl.ok;have R:(s.zero s.c.Y).1=z:=hz;have O:(s.zero s.c.Y).2=s':=hs;have T:=hQ R;have K:=hQ O;clear hz hs R O;go_enter Tryz.func179,Tryz.ntmps179;obtain⟨g0,g1,g2,g3,g4,g5,g6,g7,g8,g9,g10,H,E,j,J,gf⟩:=p.cells;rw[hk] at j;go_wp2_with fail;refine (p.zero _ s.c.Y rfl hY dQ T.out K.out).mono ?_;rintro e w1 ⟨rfl,p2⟩;clear g0 g1 g2 g3 g4 g5 g6 g7 g8 g9 g10 H E j J gf;go_wp2;go_ret;refine⟨rfl,?_⟩;exact p2
theorem Play.place_6 {F:Nat->Prop} {w W:World} {P:Nat} {o:Option Nat} {k:OpK} {s:St} {N:Nat} (p:Play F w W P o k s N) (hk:k.md=6) (hN:N<=86) {z:Nat} {s':St} (hz:(s.place 6 k.kd).1=z) (hs:(s.place 6 k.kd).2=s') :
  Calls Tryz.prog 179 #[.pointer (some ⟨P,0,none⟩)] W fun e w'=>e=.returned (.int .u16 (z:Int))/\Play F w w' P o k s' (N+2):=by
 obtain⟨hA,hX,hY,hS,hP⟩:=p.pl.ok;have R:s.fetchW.1=z:=hz;have O:s.fetchW.2=s':=hs;have T:=hQ R;have K:=hQ O;clear hz hs R O;go_enter Tryz.func179,Tryz.ntmps179;obtain⟨g0,g1,g2,g3,g4,g5,g6,g7,g8,g9,g10,H,E,j,J,gf⟩:=p.cells;rw[hk] at j;go_wp2_with fail;refine (p.fetchW dQ T.out K.out).mono ?_;rintro e w1 ⟨rfl,p2⟩;clear g0 g1 g2 g3 g4 g5 g6 g7 g8 g9 g10 H E j J gf;go_wp2;go_ret;refine⟨rfl,?_⟩;exact p2
theorem Play.place_7 {F:Nat->Prop} {w W:World} {P:Nat} {o:Option Nat} {k:OpK} {s:St} {N:Nat} (p:Play F w W P o k s N) (hk:k.md=7) (hN:N<=84) {z:Nat} {s':St} (hz:(s.place 7 k.kd).1=z) (hs:(s.place 7 k.kd).2=s') :
  Calls Tryz.prog 179 #[.pointer (some ⟨P,0,none⟩)] W fun e w'=>e=.returned (.int .u16 (z:Int))/\Play F w w' P o k s' (N+3):=by
 obtain⟨hA,hX,hY,hS,hP⟩:=p.pl.ok;obtain⟨z1,hz1⟩:∃ Q,s.fetchW.1=Q:=⟨_,rfl⟩;obtain⟨s1,hs1⟩:∃ Q,s.fetchW.2=Q:=⟨_,rfl⟩;obtain⟨r,hr⟩:∃ Q,s.c.X=Q:=⟨_,rfl⟩;have a5:z1 < 65536:=mQe;have er:s1.c.X=r:=by rw[<-hs1,<-hr];rfl
 have rb:r < 256:=dQ;have R:(s1.indexed z1 r k.kd).1=z:=by rw[<-hs1,<-hz1,<-hr];exact hz
 have O:(s1.indexed z1 r k.kd).2=s':=by rw[<-hs1,<-hz1,<-hr];exact hs
 have a9:=hQ er;clear er;have T:=hQ R;have K:=hQ O;clear hz hs R O;have Hz1:=hQ hz1;have a1:=hQ hs1;have Hr:=hQ hr;clear hz1 hs1 hr;go_enter Tryz.func179,Tryz.ntmps179;obtain⟨g0,g1,g2,g3,g4,g5,g6,g7,g8,g9,g10,H,E,j,J,gf⟩:=p.cells;rw[hk] at j;go_wp2_with fail;have p1:=p.drew;clear g0 g1 g2 g3 g4 g5 g6 g7 g8 g9 g10 H E j J gf;have g2:W.drew.cell? ⟨P,1,none⟩=some (.int .u8 (r:Int)):=(by rw[<-Hr.out];exact p1.cells.2.1);go_region_held3 (fun w'=>w'.cell? ⟨P,1,none⟩=some (.int .u8 (r:Int))) (((try dsimp only);(first|(with_reducible exact g2)|(with_reducible exact a0)|(with_reducible exact a2)))) (first|(go_at_call 182;refine (p1.fetchW dQ Hz1.out a1.out).mono ?_;rintro e w3 ⟨rfl,p4⟩;(have a0:w3.cell? ⟨P,1,none⟩=some (.int .u8 (r:Int)):=by rw[<-a9.out];exact p4.cells.2.1))|(go_at_call 198;refine (p4.indexed z1 r a5 rb dQ T.out K.out).mono ?_;rintro e w6 ⟨rfl,p7⟩;(have a2:w6.cell? ⟨P,1,none⟩=some (.int .u8 (r:Int)):=by rw[<-(show s'.c.X=r by rw[<-K.out,<-a9.out];exact St.indexed_X _ _ _ _)];exact p7.cells.2.1)));clear g2 a0 a2;go_wp2;go_ret;refine⟨rfl,?_⟩;exact p7
theorem Play.place_8 {F:Nat->Prop} {w W:World} {P:Nat} {o:Option Nat} {k:OpK} {s:St} {N:Nat} (p:Play F w W P o k s N) (hk:k.md=8) (hN:N<=84) {z:Nat} {s':St} (hz:(s.place 8 k.kd).1=z) (hs:(s.place 8 k.kd).2=s') :
  Calls Tryz.prog 179 #[.pointer (some ⟨P,0,none⟩)] W fun e w'=>e=.returned (.int .u16 (z:Int))/\Play F w w' P o k s' (N+3):=by
 obtain⟨hA,hX,hY,hS,hP⟩:=p.pl.ok;obtain⟨z1,hz1⟩:∃ Q,s.fetchW.1=Q:=⟨_,rfl⟩;obtain⟨s1,hs1⟩:∃ Q,s.fetchW.2=Q:=⟨_,rfl⟩;obtain⟨r,hr⟩:∃ Q,s.c.Y=Q:=⟨_,rfl⟩;have a5:z1 < 65536:=mQe;have er:s1.c.Y=r:=by rw[<-hs1,<-hr];rfl
 have rb:r < 256:=dQ;have R:(s1.indexed z1 r k.kd).1=z:=by rw[<-hs1,<-hz1,<-hr];exact hz
 have O:(s1.indexed z1 r k.kd).2=s':=by rw[<-hs1,<-hz1,<-hr];exact hs
 have a9:=hQ er;clear er;have T:=hQ R;have K:=hQ O;clear hz hs R O;have Hz1:=hQ hz1;have a1:=hQ hs1;have Hr:=hQ hr;clear hz1 hs1 hr;go_enter Tryz.func179,Tryz.ntmps179;obtain⟨g0,g1,g2,g3,g4,g5,g6,g7,g8,g9,g10,H,E,j,J,gf⟩:=p.cells;rw[hk] at j;go_wp2_with fail;have p1:=p.drew;clear g0 g1 g2 g3 g4 g5 g6 g7 g8 g9 g10 H E j J gf;have g2:W.drew.cell? ⟨P,2,none⟩=some (.int .u8 (r:Int)):=(by rw[<-Hr.out];exact p1.cells.2.2.1);go_region_held3 (fun w'=>w'.cell? ⟨P,2,none⟩=some (.int .u8 (r:Int))) (((try dsimp only);(first|(with_reducible exact g2)|(with_reducible exact a0)|(with_reducible exact a2)))) (first|(go_at_call 182;refine (p1.fetchW dQ Hz1.out a1.out).mono ?_;rintro e w3 ⟨rfl,p4⟩;(have a0:w3.cell? ⟨P,2,none⟩=some (.int .u8 (r:Int)):=by rw[<-a9.out];exact p4.cells.2.2.1))|(go_at_call 198;refine (p4.indexed z1 r a5 rb dQ T.out K.out).mono ?_;rintro e w6 ⟨rfl,p7⟩;(have a2:w6.cell? ⟨P,2,none⟩=some (.int .u8 (r:Int)):=by rw[<-(show s'.c.Y=r by rw[<-K.out,<-a9.out];exact St.indexed_Y _ _ _ _)];exact p7.cells.2.2.1)));clear g2 a0 a2;go_wp2;go_ret;refine⟨rfl,?_⟩;exact p7
theorem Play.place_10 {F:Nat->Prop} {w W:World} {P:Nat} {o:Option Nat} {k:OpK} {s:St} {N:Nat} (p:Play F w W P o k s N) (hk:k.md=10) (hN:N<=82) {z:Nat} {s':St} (hz:(s.place 10 k.kd).1=z) (hs:(s.place 10 k.kd).2=s') :
  Calls Tryz.prog 179 #[.pointer (some ⟨P,0,none⟩)] W fun e w'=>e=.returned (.int .u16 (z:Int))/\Play F w w' P o k s' (N+4):=by
 obtain⟨hA,hX,hY,hS,hP⟩:=p.pl.ok;obtain⟨z1,hz1⟩:∃ Q,(s.zero s.c.X).1=Q:=⟨_,rfl⟩;obtain⟨s1,hs1⟩:∃ Q,(s.zero s.c.X).2=Q:=⟨_,rfl⟩;have a5:z1 < 65536:=by rw[<-hz1];show (_+_) % 256 < 65536;omega
 have R:(s1.readW z1).1=z:=by rw[<-hs1,<-hz1];exact hz
 have O:(s1.readW z1).2=s':=by rw[<-hs1,<-hz1];exact hs
 have T:=hQ R;have K:=hQ O;clear hz hs R O;have Hz1:=hQ hz1;have a1:=hQ hs1;clear hz1 hs1;go_enter Tryz.func179,Tryz.ntmps179;obtain⟨g0,g1,g2,g3,g4,g5,g6,g7,g8,g9,g10,H,E,j,J,gf⟩:=p.cells;rw[hk] at j;go_wp2_with fail;refine (p.zero _ s.c.X rfl hX dQ Hz1.out a1.out).mono ?_;rintro e w1 ⟨rfl,p2⟩;clear g0 g1 g2 g3 g4 g5 g6 g7 g8 g9 g10 H E j J gf;go_wp2_with fail;refine (p2.readW _ z1 rfl a5 dQ T.out K.out).mono ?_;rintro e w3 ⟨rfl,p4⟩;clear p2;go_wp2;go_ret;refine⟨rfl,?_⟩;exact p4
theorem Play.place_11 {F:Nat->Prop} {w W:World} {P:Nat} {o:Option Nat} {k:OpK} {s:St} {N:Nat} (p:Play F w W P o k s N) (hk:k.md=11) (hN:N<=82) {z:Nat} {s':St} (hz:(s.place 11 k.kd).1=z) (hs:(s.place 11 k.kd).2=s') :
  Calls Tryz.prog 179 #[.pointer (some ⟨P,0,none⟩)] W fun e w'=>e=.returned (.int .u16 (z:Int))/\Play F w w' P o k s' (N+4):=by
 obtain⟨hA,hX,hY,hS,hP⟩:=p.pl.ok;obtain⟨z1,hz1⟩:∃ Q,s.fetch.1=Q:=⟨_,rfl⟩;obtain⟨s1,hs1⟩:∃ Q,s.fetch.2=Q:=⟨_,rfl⟩;obtain⟨z2,a7⟩:∃ Q,(s1.readW z1).1=Q:=⟨_,rfl⟩;obtain⟨s2,a8⟩:∃ Q,(s1.readW z1).2=Q:=⟨_,rfl⟩;obtain⟨r,hr⟩:∃ Q,s.c.Y=Q:=⟨_,rfl⟩;have a5:z1 < 256:=lQd;have c7:z2 < 65536:=by rw[<-a7,<-hs1];exact hEA (p.byte_fetch _) (p.byte_read _ _)
 have b4:s1.c.Y=r:=by rw[<-hs1,<-hr];rfl
 have c0:s2.c.Y=r:=by rw[<-a8,<-b4];rfl
 have rb:r < 256:=dQ;have R:(s2.indexed z2 r k.kd).1=z:=by rw[<-a8,<-a7,<-hs1,<-hz1,<-hr];exact hz
 have O:(s2.indexed z2 r k.kd).2=s':=by rw[<-a8,<-a7,<-hs1,<-hz1,<-hr];exact hs
 have b6:=hQ b4;have b0:=hQ c0;clear b4 c0;have T:=hQ R;have K:=hQ O;clear hz hs R O;have Hz1:=hQ hz1;have a1:=hQ hs1;have Hz2:=hQ a7;have c8:=hQ a8;have Hr:=hQ hr;clear hz1 hs1 a7 a8 hr;go_enter Tryz.func179,Tryz.ntmps179;obtain⟨g0,g1,g2,g3,g4,g5,g6,g7,g8,g9,g10,H,E,j,J,gf⟩:=p.cells;rw[hk] at j;go_wp2_with fail;have p1:=p.drew;clear g0 g1 g2 g3 g4 g5 g6 g7 g8 g9 g10 H E j J gf;have g2:W.drew.cell? ⟨P,2,none⟩=some (.int .u8 (r:Int)):=(by rw[<-Hr.out];exact p1.cells.2.2.1);go_region_held3 (fun w'=>w'.cell? ⟨P,2,none⟩=some (.int .u8 (r:Int))) (((try dsimp only);(first|(with_reducible exact g2)|(with_reducible exact a0)|(with_reducible exact a2)|(with_reducible exact U)))) (first|(go_at_call 157;refine (p1.fetch dQ Hz1.out a1.out).mono ?_;rintro e w3 ⟨rfl,p4⟩;(have a0:w3.cell? ⟨P,2,none⟩=some (.int .u8 (r:Int)):=by rw[<-b6.out];exact p4.cells.2.2.1))|(go_at_call 156;refine (p4.readW _ z1 nQb dQ dQ Hz2.out c8.out).mono ?_;rintro e w6 ⟨rfl,p7⟩;(have a2:w6.cell? ⟨P,2,none⟩=some (.int .u8 (r:Int)):=by rw[<-b0.out];exact p7.cells.2.2.1))|(go_at_call 198;refine (p7.indexed z2 r c7 rb dQ T.out K.out).mono ?_;rintro e w9 ⟨rfl,p10⟩;(have U:w9.cell? ⟨P,2,none⟩=some (.int .u8 (r:Int)):=by rw[<-(show s'.c.Y=r by rw[<-K.out,<-b0.out];exact St.indexed_Y _ _ _ _)];exact p10.cells.2.2.1)));clear g2 a0 a2 U;go_wp2;go_ret;refine⟨rfl,?_⟩;exact p10
theorem Play.place {F:Nat->Prop} {w W:World} {P:Nat} {o:Option Nat} {k:OpK} {s:St} {N:Nat} (p:Play F w W P o k s N) (hm:k.md=2\/k.md=3\/k.md=4\/k.md=5\/k.md=6\/k.md=7\/k.md=8\/k.md=10\/k.md=11) (hN:N<=80) {z:Nat} {s':St} (hz:(s.place k.md k.kd).1=z) (hs:(s.place k.md k.kd).2=s') :
  Calls Tryz.prog 179 #[.pointer (some ⟨P,0,none⟩)] W fun e w'=>e=.returned (.int .u16 (z:Int))/\Play F w w' P o k s' (N+4):=by
 have M:=fun {w1:World} {v:Value} {e:Ending} {n:Nat} (hn:n<=4) (h:e=.returned v/\Play F w w1 P o k s' (N+n))=>(⟨h.1,h.2.mono dQ⟩:e=.returned v/\Play F w w1 P o k s' (N+4))
 rcases hm with h|h|h|h|h|h|h|h|h<;>rw[h] at hz hs
 ·exact (p.place_2 h dQ hz hs).mono fun _ _ h=>M dQ h
 ·exact (p.place_3 h dQ hz hs).mono fun _ _ h=>M dQ h
 ·exact (p.place_4 h dQ hz hs).mono fun _ _ h=>M dQ h
 ·exact (p.place_5 h dQ hz hs).mono fun _ _ h=>M dQ h
 ·exact (p.place_6 h dQ hz hs).mono fun _ _ h=>M dQ h
 ·exact (p.place_7 h dQ hz hs).mono fun _ _ h=>M dQ h
 ·exact (p.place_8 h dQ hz hs).mono fun _ _ h=>M dQ h
 ·exact (p.place_10 h dQ hz hs).mono fun _ _ h=>M dQ h
 ·exact (p.place_11 h dQ hz hs).mono fun _ _ h=>M dQ h
theorem Play.place_lt {F:Nat->Prop} {w W:World} {P:Nat} {o:Option Nat} {k:OpK} {s:St} {N:Nat} (p:Play F w W P o k s N) (hm:k.md=2\/k.md=3\/k.md=4\/k.md=5\/k.md=6\/k.md=7\/k.md=8\/k.md=10\/k.md=11):(s.place k.md k.kd).1 < 65536:=by
 obtain⟨hA,hX,hY,hS,hP⟩:=p.pl.ok;have h1:=p.byte s.c.PC;rcases hm with h|h|h|h|h|h|h|h|h<;>rw[h]
 ·show s.c.PC < 65536;omega
 ·show s.b.get s.c.PC < 65536;omega
 ·show (_+_) % 256 < 65536;omega
 ·show (_+_) % 256 < 65536;omega
 ·exact hEA (p.byte _) (p.byte_fetch _)
 ·show (_+_) % 65536 < 65536;omega
 ·show (_+_) % 65536 < 65536;omega
 ·exact hEA (p.byte _) (p.byte _)
 ·show (_+_) % 65536 < 65536;omega
theorem Play.store_lt {F:Nat->Prop} {w W:World} {P:Nat} {o:Option Nat} {k:OpK} {s:St} {N:Nat} (p:Play F w W P o k s N) {l:List UInt8}:nCA s.c l < 256:=by
 obtain⟨hA,hX,hY,hS,hP⟩:=p.pl.ok;unfold nCA;repeat' split
 all_goals omega
theorem Play.playRead {F:Nat->Prop} {w W:World} {P:Nat} {o:Option Nat} {k:OpK} {s:St} {N:Nat} (p:Play F w W P o k s N) (i:Nat) (hi:i ∈ [1,2,3,4,6,7,8,14,24,25,26,31]) (hk:k.nm=opTx i) (a3:k.md=2\/k.md=3\/k.md=4\/k.md=5\/k.md=6\/k.md=7\/k.md=8\/k.md=10\/k.md=11) (hN:N<=80) {s':St} (hs:s.readP (opTx i).toList k.md k.kd=s') :
  Calls Tryz.prog 163 #[.pointer (some ⟨P,0,none⟩)] W fun e w'=>e=.returned (.tuple #[])/\Play F w w' P o k s' (N+5):=by
 obtain⟨hA,hX,hY,hS,hP⟩:=p.pl.ok;obtain⟨a,ha⟩:∃ Q,(s.place k.md k.kd).1=Q:=⟨_,rfl⟩;obtain⟨s1,hs1⟩:∃ Q,(s.place k.md k.kd).2=Q:=⟨_,rfl⟩;have ab:a < 65536:=by rw[<-ha];exact p.place_lt a3
 obtain⟨v,hv⟩:∃ Q,s1.b.get a=Q:=⟨_,rfl⟩;obtain⟨b1,hb1⟩:∃ Q,s1.b.rd a=Q:=⟨_,rfl⟩;have O:(⟨useL s1.c (opTx i).toList v,b1⟩:St)=s':=by rw[<-hs,<-hb1,<-hv,<-hs1,<-ha];rfl
 have K:=hQ O;clear hs O;have Ha:=hQ ha;have a1:=hQ hs1;have Hv:=hQ hv;have Hb1:=hQ hb1;clear ha hs1 hv hb1;obtain⟨b9,c1⟩:=methR;rcases o with _|B
 ·go_enter Tryz.func163,Tryz.ntmps163;obtain⟨g0,g1,g2,g3,g4,g5,g6,g7,g8,g9,g10,H,E,j,J,gf⟩:=p.cells;go_wp2_with fail;have p1:=p.drew;clear g0 g1 g2 g3 g4 g5 g6 g7 g8 g9 g10 H E j J gf;have g2:W.drew.cell? ⟨P,11,none⟩=some (busV none):=p1.cells.2.2.2.2.2.2.2.2.2.2.2.1;go_region_held3 (fun w'=>w'.cell? ⟨P,11,none⟩=some (busV none)) (((try dsimp only);(first|(with_reducible exact g2)|(with_reducible exact a0)|(with_reducible exact a2)|(with_reducible exact U)))) (first|(go_at_call 179;refine (p1.place a3 dQ Ha.out a1.out).mono ?_;rintro e w3 ⟨rfl,p4⟩;(have a0:w3.cell? ⟨P,11,none⟩=some (busV none):=p4.cells.2.2.2.2.2.2.2.2.2.2.2.1))|(refine (p4.read _ a rfl ab dQ Hv.out (s':=⟨s1.c,b1⟩) (by rw[<-Hb1.out])).mono ?_;rintro e w6 ⟨rfl,p7⟩;(have a2:w6.cell? ⟨P,11,none⟩=some (busV none):=p7.cells.2.2.2.2.2.2.2.2.2.2.2.1))|(go_at_call 178;refine (p7.use_any i hi hk v (by rw[<-Hv.out];exact p4.byte _) dQ K.out).mono ?_;rintro e w9 ⟨rfl,p10⟩;(have U:w9.cell? ⟨P,11,none⟩=some (busV none):=p10.cells.2.2.2.2.2.2.2.2.2.2.2.1)));clear g2 a0 a2 U;go_wp2
  (try simp only[Exit.inBlock,Exit.then])
  first|refine bodyPost_ret (results_none rfl _ _ _) rfl ?_|refine bodyPost_end (results_none rfl _ _ _) rfl ?_
  refine⟨rfl,?_⟩;exact p10
 ·go_enter Tryz.func163,Tryz.ntmps163;obtain⟨g0,g1,g2,g3,g4,g5,g6,g7,g8,g9,g10,H,E,j,J,gf⟩:=p.cells;go_wp2_with fail;have p1:=p.drew;clear g0 g1 g2 g3 g4 g5 g6 g7 g8 g9 g10 H E j J gf;have g2:W.drew.cell? ⟨P,11,none⟩=some (busV (some B)):=p1.cells.2.2.2.2.2.2.2.2.2.2.2.1;go_region_held3 (fun w'=>w'.cell? ⟨P,11,none⟩=some (busV (some B))) (((try dsimp only);(first|(with_reducible exact g2)|(with_reducible exact a0)|(with_reducible exact a2)|(with_reducible exact U)))) (first|(go_at_call 179;refine (p1.place a3 dQ Ha.out a1.out).mono ?_;rintro e w3 ⟨rfl,p4⟩;(have a0:w3.cell? ⟨P,11,none⟩=some (busV (some B)):=p4.cells.2.2.2.2.2.2.2.2.2.2.2.1))|(refine (p4.read _ a rfl ab dQ Hv.out (s':=⟨s1.c,b1⟩) (by rw[<-Hb1.out])).mono ?_;rintro e w6 ⟨rfl,p7⟩;(have a2:w6.cell? ⟨P,11,none⟩=some (busV (some B)):=p7.cells.2.2.2.2.2.2.2.2.2.2.2.1))|(go_at_call 178;refine (p7.use_any i hi hk v (by rw[<-Hv.out];exact p4.byte _) dQ K.out).mono ?_;rintro e w9 ⟨rfl,p10⟩;(have U:w9.cell? ⟨P,11,none⟩=some (busV (some B)):=p10.cells.2.2.2.2.2.2.2.2.2.2.2.1)));clear g2 a0 a2 U;go_wp2
  (try simp only[Exit.inBlock,Exit.then])
  first|refine bodyPost_ret (results_none rfl _ _ _) rfl ?_|refine bodyPost_end (results_none rfl _ _ _) rfl ?_
  refine⟨rfl,?_⟩;exact p10
theorem Play.playWrite {F:Nat->Prop} {w W:World} {P:Nat} {o:Option Nat} {k:OpK} {s:St} {N:Nat} (p:Play F w W P o k s N) (i:Nat) (hi:i ∈ [5,13,23]) (hk:k.nm=opTx i) (a3:k.md=2\/k.md=3\/k.md=4\/k.md=5\/k.md=6\/k.md=7\/k.md=8\/k.md=10\/k.md=11) (hN:N<=80) {s':St} (hs:s.writeP (opTx i).toList k.md k.kd=s') :
  Calls Tryz.prog 164 #[.pointer (some ⟨P,0,none⟩)] W fun e w'=>e=.returned (.tuple #[])/\Play F w w' P o k s' (N+5):=by
 obtain⟨hA,hX,hY,hS,hP⟩:=p.pl.ok;obtain⟨a,ha⟩:∃ Q,(s.place k.md k.kd).1=Q:=⟨_,rfl⟩;obtain⟨s1,hs1⟩:∃ Q,(s.place k.md k.kd).2=Q:=⟨_,rfl⟩;have ab:a < 65536:=by rw[<-ha];exact p.place_lt a3
 obtain⟨v,hv⟩:∃ Q,nCA s1.c (opTx i).toList=Q:=⟨_,rfl⟩;obtain⟨b1,hb1⟩:∃ Q,s1.b.put a v=Q:=⟨_,rfl⟩;have O:(⟨s1.c,b1⟩:St)=s':=by rw[<-hs,<-hb1,<-hv,<-hs1,<-ha];rfl
 have K:=hQ O;clear hs O;have Ha:=hQ ha;have a1:=hQ hs1;have Hv:=hQ hv;have Hb1:=hQ hb1;clear ha hs1 hv hb1;obtain⟨b9,c1⟩:=methW;rcases o with _|B
 ·go_enter Tryz.func164,Tryz.ntmps164;obtain⟨g0,g1,g2,g3,g4,g5,g6,g7,g8,g9,g10,H,E,j,J,gf⟩:=p.cells;go_wp2_with fail;have p1:=p.drew;clear g0 g1 g2 g3 g4 g5 g6 g7 g8 g9 g10 H E j J gf;have g2:W.drew.cell? ⟨P,11,none⟩=some (busV none):=p1.cells.2.2.2.2.2.2.2.2.2.2.2.1;go_region_held3 (fun w'=>w'.cell? ⟨P,11,none⟩=some (busV none)) (((try dsimp only);(first|(with_reducible exact g2)|(with_reducible exact a0)|(with_reducible exact a6)))) (first|(go_at_call 179;refine (p1.place a3 dQ Ha.out a1.out).mono ?_;rintro e w3 ⟨rfl,p4⟩;(have a0:w3.cell? ⟨P,11,none⟩=some (busV none):=p4.cells.2.2.2.2.2.2.2.2.2.2.2.1))|(go_at_call 180;refine (p4.stored_any i hi hk).mono ?_;rintro e w6 ⟨rfl,rfl⟩)|(refine (p4.write _ _ a v rfl (by rw[<-Hv.out]) ab (by rw[<-Hv.out];exact p4.store_lt) dQ (s':=⟨s1.c,b1⟩) (by rw[<-Hb1.out])).mono ?_;rintro e w7 ⟨rfl,p8⟩;(have a6:w7.cell? ⟨P,11,none⟩=some (busV none):=p8.cells.2.2.2.2.2.2.2.2.2.2.2.1)));clear g2 a0 a6;go_wp2
  (try simp only[Exit.inBlock,Exit.then])
  first|refine bodyPost_ret (results_none rfl _ _ _) rfl ?_|refine bodyPost_end (results_none rfl _ _ _) rfl ?_
  refine⟨rfl,?_⟩;exact (by rw[<-K.out];exact p8)
 ·go_enter Tryz.func164,Tryz.ntmps164;obtain⟨g0,g1,g2,g3,g4,g5,g6,g7,g8,g9,g10,H,E,j,J,gf⟩:=p.cells;go_wp2_with fail;have p1:=p.drew;clear g0 g1 g2 g3 g4 g5 g6 g7 g8 g9 g10 H E j J gf;have g2:W.drew.cell? ⟨P,11,none⟩=some (busV (some B)):=p1.cells.2.2.2.2.2.2.2.2.2.2.2.1;go_region_held3 (fun w'=>w'.cell? ⟨P,11,none⟩=some (busV (some B))) (((try dsimp only);(first|(with_reducible exact g2)|(with_reducible exact a0)|(with_reducible exact a6)))) (first|(go_at_call 179;refine (p1.place a3 dQ Ha.out a1.out).mono ?_;rintro e w3 ⟨rfl,p4⟩;(have a0:w3.cell? ⟨P,11,none⟩=some (busV (some B)):=p4.cells.2.2.2.2.2.2.2.2.2.2.2.1))|(go_at_call 180;refine (p4.stored_any i hi hk).mono ?_;rintro e w6 ⟨rfl,rfl⟩)|(refine (p4.write _ _ a v rfl (by rw[<-Hv.out]) ab (by rw[<-Hv.out];exact p4.store_lt) dQ (s':=⟨s1.c,b1⟩) (by rw[<-Hb1.out])).mono ?_;rintro e w7 ⟨rfl,p8⟩;(have a6:w7.cell? ⟨P,11,none⟩=some (busV (some B)):=p8.cells.2.2.2.2.2.2.2.2.2.2.2.1)));clear g2 a0 a6;go_wp2
  (try simp only[Exit.inBlock,Exit.then])
  first|refine bodyPost_ret (results_none rfl _ _ _) rfl ?_|refine bodyPost_end (results_none rfl _ _ _) rfl ?_
  refine⟨rfl,?_⟩;exact (by rw[<-K.out];exact p8)
theorem Play.playModify {F:Nat->Prop} {w W:World} {P:Nat} {o:Option Nat} {k:OpK} {s:St} {N:Nat} (p:Play F w W P o k s N) (i:Nat) (hi:i ∈ [9,10,11,12,15,16]) (hk:k.nm=opTx i) (a3:k.md=2\/k.md=3\/k.md=4\/k.md=5\/k.md=6\/k.md=7\/k.md=8\/k.md=10\/k.md=11) (hN:N<=76) {s':St} (hs:s.modP (opTx i).toList k.md k.kd=s') :
  Calls Tryz.prog 165 #[.pointer (some ⟨P,0,none⟩)] W fun e w'=>e=.returned (.tuple #[])/\Play F w w' P o k s' (N+7):=by
 obtain⟨hA,hX,hY,hS,hP⟩:=p.pl.ok;obtain⟨c9,d0⟩:=methW;obtain⟨a,ha⟩:∃ Q,(s.place k.md k.kd).1=Q:=⟨_,rfl⟩;obtain⟨s1,hs1⟩:∃ Q,(s.place k.md k.kd).2=Q:=⟨_,rfl⟩;have ab:a < 65536:=by rw[<-ha];exact p.place_lt a3
 obtain⟨v,hv⟩:∃ Q,s1.b.get a=Q:=⟨_,rfl⟩;obtain⟨b1,hb1⟩:∃ Q,s1.b.rd a=Q:=⟨_,rfl⟩;obtain⟨b2,hb2⟩:∃ Q,b1.put a v=Q:=⟨_,rfl⟩;obtain⟨y,hy⟩:∃ Q,chgB (opTx i).toList v s1.c.C=Q:=⟨_,rfl⟩;obtain⟨b3,hb3⟩:∃ Q,b2.put a y=Q:=⟨_,rfl⟩;have O:(⟨s1.c.chg (opTx i).toList v,b3⟩:St)=s':=by rw[<-hs,<-hb3,<-hy,<-hb2,<-hb1,<-hv,<-hs1,<-ha];rfl
 have K:=hQ O;clear hs O;have Ha:=hQ ha;have a1:=hQ hs1;have Hv:=hQ hv;have Hb1:=hQ hb1;have b7:=hQ hb2;have Hy:=hQ hy;have b8:=hQ hb3;clear ha hs1 hv hb1 hb2 hy hb3;obtain⟨b9,c1⟩:=methR;rcases o with _|B
 ·go_enter Tryz.func165,Tryz.ntmps165;obtain⟨g0,g1,g2,g3,g4,g5,g6,g7,g8,g9,g10,H,E,j,J,gf⟩:=p.cells;go_wp2_with fail;refine (p.place a3 dQ Ha.out a1.out).mono ?_;rintro e w1 ⟨rfl,p2⟩;clear g0 g1 g2 g3 g4 g5 g6 g7 g8 g9 g10 H E j J gf;have vb:v < 256:=by rw[<-Hv.out];exact p2.byte _
  have yb:y < 256:=by rw[<-Hy.out];exact nGA vb
  obtain⟨g0,g1,g2,g3,g4,g5,g6,g7,g8,g9,g10,H,E,j,J,gf⟩:=p2.cells;go_wp2_with fail;refine (p2.read _ a rfl ab dQ Hv.out (s':=⟨s1.c,b1⟩) (by rw[<-Hb1.out])).mono ?_;rintro e w3 ⟨rfl,p4⟩;clear g0 g1 g2 g3 g4 g5 g6 g7 g8 g9 g10 H E j J gf;clear p2;obtain⟨g0,g1,g2,g3,g4,g5,g6,g7,g8,g9,g10,H,E,j,J,gf⟩:=p4.cells;go_wp2_with fail;refine (p4.write _ _ a v rfl rfl ab vb dQ (s':=⟨s1.c,b2⟩) (by rw[<-b7.out])).mono ?_;rintro e w5 ⟨rfl,p6⟩;clear g0 g1 g2 g3 g4 g5 g6 g7 g8 g9 g10 H E j J gf;clear p4;obtain⟨g0,g1,g2,g3,g4,g5,g6,g7,g8,g9,g10,H,E,j,J,gf⟩:=p6.cells;go_wp2_with fail;have p7:=p6.drew;clear g0 g1 g2 g3 g4 g5 g6 g7 g8 g9 g10 H E j J gf;have g8:w5.drew.cell? ⟨P,11,none⟩=some (busV none):=p7.cells.2.2.2.2.2.2.2.2.2.2.2.1;go_region_held3 (fun w'=>w'.cell? ⟨P,11,none⟩=some (busV none)) (((try dsimp only);(first|(with_reducible exact g8)|(with_reducible exact U)|(with_reducible exact a4)))) (first|(go_at_call 174;refine (p7.remade_any i hi hk v vb dQ Hy.out (s':=⟨s1.c.chg (opTx i).toList v,b2⟩) rfl).mono ?_;rintro e w9 ⟨rfl,p10⟩;(have U:w9.cell? ⟨P,11,none⟩=some (busV none):=p10.cells.2.2.2.2.2.2.2.2.2.2.2.1))|(refine (p10.write _ _ a y rfl rfl ab yb dQ (s':=⟨s1.c.chg (opTx i).toList v,b3⟩) (by rw[<-b8.out])).mono ?_;rintro e b5 ⟨rfl,p13⟩;(have a4:b5.cell? ⟨P,11,none⟩=some (busV none):=p13.cells.2.2.2.2.2.2.2.2.2.2.2.1)));clear g8 U a4;go_wp2
  (try simp only[Exit.inBlock,Exit.then])
  first|refine bodyPost_ret (results_none rfl _ _ _) rfl ?_|refine bodyPost_end (results_none rfl _ _ _) rfl ?_
  refine⟨rfl,?_⟩;exact (by rw[<-K.out];exact p13)
 ·go_enter Tryz.func165,Tryz.ntmps165;obtain⟨g0,g1,g2,g3,g4,g5,g6,g7,g8,g9,g10,H,E,j,J,gf⟩:=p.cells;go_wp2_with fail;refine (p.place a3 dQ Ha.out a1.out).mono ?_;rintro e w1 ⟨rfl,p2⟩;clear g0 g1 g2 g3 g4 g5 g6 g7 g8 g9 g10 H E j J gf;have vb:v < 256:=by rw[<-Hv.out];exact p2.byte _
  have yb:y < 256:=by rw[<-Hy.out];exact nGA vb
  obtain⟨g0,g1,g2,g3,g4,g5,g6,g7,g8,g9,g10,H,E,j,J,gf⟩:=p2.cells;go_wp2_with fail;refine (p2.read _ a rfl ab dQ Hv.out (s':=⟨s1.c,b1⟩) (by rw[<-Hb1.out])).mono ?_;rintro e w3 ⟨rfl,p4⟩;clear g0 g1 g2 g3 g4 g5 g6 g7 g8 g9 g10 H E j J gf;clear p2;obtain⟨g0,g1,g2,g3,g4,g5,g6,g7,g8,g9,g10,H,E,j,J,gf⟩:=p4.cells;go_wp2_with fail;refine (p4.write _ _ a v rfl rfl ab vb dQ (s':=⟨s1.c,b2⟩) (by rw[<-b7.out])).mono ?_;rintro e w5 ⟨rfl,p6⟩;clear g0 g1 g2 g3 g4 g5 g6 g7 g8 g9 g10 H E j J gf;clear p4;obtain⟨g0,g1,g2,g3,g4,g5,g6,g7,g8,g9,g10,H,E,j,J,gf⟩:=p6.cells;go_wp2_with fail;have p7:=p6.drew;clear g0 g1 g2 g3 g4 g5 g6 g7 g8 g9 g10 H E j J gf;have g8:w5.drew.cell? ⟨P,11,none⟩=some (busV (some B)):=p7.cells.2.2.2.2.2.2.2.2.2.2.2.1;go_region_held3 (fun w'=>w'.cell? ⟨P,11,none⟩=some (busV (some B))) (((try dsimp only);(first|(with_reducible exact g8)|(with_reducible exact U)|(with_reducible exact a4)))) (first|(go_at_call 174;refine (p7.remade_any i hi hk v vb dQ Hy.out (s':=⟨s1.c.chg (opTx i).toList v,b2⟩) rfl).mono ?_;rintro e w9 ⟨rfl,p10⟩;(have U:w9.cell? ⟨P,11,none⟩=some (busV (some B)):=p10.cells.2.2.2.2.2.2.2.2.2.2.2.1))|(refine (p10.write _ _ a y rfl rfl ab yb dQ (s':=⟨s1.c.chg (opTx i).toList v,b3⟩) (by rw[<-b8.out])).mono ?_;rintro e b5 ⟨rfl,p13⟩;(have a4:b5.cell? ⟨P,11,none⟩=some (busV (some B)):=p13.cells.2.2.2.2.2.2.2.2.2.2.2.1)));clear g8 U a4;go_wp2
  (try simp only[Exit.inBlock,Exit.then])
  first|refine bodyPost_ret (results_none rfl _ _ _) rfl ?_|refine bodyPost_end (results_none rfl _ _ _) rfl ?_
  refine⟨rfl,?_⟩;exact (by rw[<-K.out];exact p13)

end Go.Proofs.YtckfdbjjjgfbfaaGreat
