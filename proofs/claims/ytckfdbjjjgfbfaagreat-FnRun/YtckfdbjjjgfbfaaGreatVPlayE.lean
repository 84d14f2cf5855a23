import Derived.Test.YtckfdbjjjgfbfaaGreatVPlayB
set_option linter.unusedVariables false
set_option linter.unusedSimpArgs false
set_option maxRecDepth 100000
namespace Go.Proofs.YtckfdbjjjgfbfaaGreat
open Go.RowKit
theorem Play.fetchW {F:Nat->Prop} {w W:World} {P:Nat} {o:Option Nat} {k:OpK} {s:St} {N:Nat} (p:Play F w W P o k s N) (hN:N<=86) {z:Nat} {s':St} (hz:s.fetchW.1=z) (hs:s.fetchW.2=s') :
  Calls Tryz.prog 182 #[.pointer (some ⟨P,0,none⟩)] W fun e w'=>e=.returned (.int .u16 (z:Int))/\Play F w w' P o k s' (N+2):=by
 obtain⟨hA,hX,hY,hS,hP⟩:=p.pl.ok;obtain⟨z1,hz1⟩:∃ K,s.fetch.1=K:=⟨_,rfl⟩;obtain⟨s1,hs1⟩:∃ K,s.fetch.2=K:=⟨_,rfl⟩;obtain⟨z2,R⟩:∃ K,s1.fetch.1=K:=⟨_,rfl⟩;obtain⟨s2,U⟩:∃ K,s1.fetch.2=K:=⟨_,rfl⟩;have a0:word z1 z2=z:=by rw[<-hz,<-hz1,<-R,<-hs1];rfl
 have Q:s2=s':=by rw[<-hs,<-U,<-hs1];rfl
 have a4:z1 < 256:=uQd;have Hz1:=j_ hz1;have a5:=j_ hs1;have Hz2:=j_ R;have a9:=j_ U;clear hz1 hs1 R U;go_enter Tryz.func182,Tryz.ntmps182;go_wp2_with fail;refine (p.fetch dQ Hz1.out a5.out).mono ?_;rintro e w1 ⟨rfl,p2⟩;have a3:z2 < 256:=xQh;go_wp2_with fail;refine (p2.fetch dQ Hz2.out a9.out).mono ?_;rintro e w3 ⟨rfl,p4⟩;clear p2;go_wp2_with fail;refine (zFA z1 z2 a4 a3 a0 _).mono ?_;rintro e w5 ⟨rfl,rfl⟩;go_wp2;go_ret;refine⟨rfl,?_⟩;exact (by subst Q;exact p4)
theorem Play.readW {F:Nat->Prop} {w W:World} {P:Nat} {o:Option Nat} {k:OpK} {s:St} {N:Nat} (p:Play F w W P o k s N) (x:Int) (a:Nat) (hx:x=(a:Int)) (ha:a < 65536) (hN:N<=86) {z:Nat} {s':St} (hz:(s.readW a).1=z) (hs:(s.readW a).2=s') :
  Calls Tryz.prog 156 #[.pointer (some ⟨P,0,none⟩),.int .u16 x] W fun e w'=>e=.returned (.int .u16 (z:Int))/\Play F w w' P o k s' (N+2):=by
 obtain⟨hA,hX,hY,hS,hP⟩:=p.pl.ok;subst hx;obtain⟨z1,hz1⟩:∃ K,s.b.get a=K:=⟨_,rfl⟩;obtain⟨b1,hb1⟩:∃ K,s.b.rd a=K:=⟨_,rfl⟩;obtain⟨a1,ha1⟩:∃ K,(a+1) % 65536=K:=⟨_,rfl⟩;obtain⟨a2,a6⟩:∃ K,rAA a a1=K:=⟨_,rfl⟩;obtain⟨z2,R⟩:∃ K,b1.get a2=K:=⟨_,rfl⟩;have a0:word z1 z2=z:=by rw[<-hz,<-R,<-hz1,<-hb1,<-a6,<-ha1];rfl
 have Q:(⟨s.c,b1.rd a2⟩:St)=s':=by rw[<-hs,<-hb1,<-a6,<-ha1];rfl
 have a4:z1 < 256:=uQd;have b4:a1 < 65536:=dQ;have b5:a2 < 65536:=by rw[<-a6];unfold rAA;omega
 have e1:IntKind.u16.wrap ((a:Int)+1)=(a1:Int):=lQg;have Hz1:=j_ hz1;have Hb1:=j_ hb1;have b6:=j_ ha1;have b3:=j_ a6;have Hz2:=j_ R;clear hz1 hb1 ha1 a6 R;obtain⟨b0,b2⟩:=methR;rcases o with _|B
 ·go_enter Tryz.func156,Tryz.ntmps156;obtain⟨g0,g1,g2,g3,g4,g5,g6,g7,g8,g9,g10,j,r,E,H,J⟩:=p.cells;go_wp2_with fail;refine (p.read _ _ rfl ha dQ Hz1.out (by rw[Hb1.out])).mono ?_;rintro e w1 ⟨rfl,p2⟩;clear g0 g1 g2 g3 g4 g5 g6 g7 g8 g9 g10 j r E H J;have a3:z2 < 256:=xQh;obtain⟨g0,g1,g2,g3,g4,g5,g6,g7,g8,g9,g10,j,r,E,H,J⟩:=p2.cells;go_wp2_with fail;have p3:=p2.drew;clear g0 g1 g2 g3 g4 g5 g6 g7 g8 g9 g10 j r E H J;have j:=p3.cells.2.2.2.2.2.2.2.2.2.2.2.1;go_region_held3 (fun w'=>w'.cell? ⟨P,11,none⟩=some (busV none))
  (((try dsimp only);(first|(with_reducible exact j)|(with_reducible exact p9.cells.2.2.2.2.2.2.2.2.2.2.2.1))))
  (first|(go_at_call 161;refine (pCA a a1 ha b4 b3.out _).mono ?_;rintro e w8 ⟨rfl,rfl⟩)|(refine (p3.read _ _ rfl b5 dQ Hz2.out rfl).mono ?_;rintro e w9 ⟨rfl,p9⟩))
  go_wp2_with fail;refine (zFA z1 z2 a4 a3 a0 _).mono ?_;rintro e w4 ⟨rfl,rfl⟩;go_wp2;go_ret;refine⟨rfl,?_⟩;exact (by subst Q;exact p9)
 ·go_enter Tryz.func156,Tryz.ntmps156;obtain⟨g0,g1,g2,g3,g4,g5,g6,g7,g8,g9,g10,j,r,E,H,J⟩:=p.cells;go_wp2_with fail;refine (p.read _ _ rfl ha dQ Hz1.out (by rw[Hb1.out])).mono ?_;rintro e w1 ⟨rfl,p2⟩;clear g0 g1 g2 g3 g4 g5 g6 g7 g8 g9 g10 j r E H J;have a3:z2 < 256:=xQh;obtain⟨g0,g1,g2,g3,g4,g5,g6,g7,g8,g9,g10,j,r,E,H,J⟩:=p2.cells;go_wp2_with fail;have p3:=p2.drew;clear g0 g1 g2 g3 g4 g5 g6 g7 g8 g9 g10 j r E H J;have j:=p3.cells.2.2.2.2.2.2.2.2.2.2.2.1;go_region_held3 (fun w'=>w'.cell? ⟨P,11,none⟩=some (busV (some B)))
  (((try dsimp only);(first|(with_reducible exact j)|(with_reducible exact p9.cells.2.2.2.2.2.2.2.2.2.2.2.1))))
  (first|(go_at_call 161;refine (pCA a a1 ha b4 b3.out _).mono ?_;rintro e w8 ⟨rfl,rfl⟩)|(refine (p3.read _ _ rfl b5 dQ Hz2.out rfl).mono ?_;rintro e w9 ⟨rfl,p9⟩))
  go_wp2_with fail;refine (zFA z1 z2 a4 a3 a0 _).mono ?_;rintro e w4 ⟨rfl,rfl⟩;go_wp2;go_ret;refine⟨rfl,?_⟩;exact (by subst Q;exact p9)
theorem Play.idleStk {F:Nat->Prop} {w W:World} {P:Nat} {o:Option Nat} {k:OpK} {s:St} {N:Nat} (p:Play F w W P o k s N) (hN:N<=88) {s':St} (hs:s.idleStk=s') :
  Calls Tryz.prog 183 #[.pointer (some ⟨P,0,none⟩)] W fun e w'=>e=.returned (.tuple #[])/\Play F w w' P o k s' (N+1):=by
 obtain⟨hA,hX,hY,hS,hP⟩:=p.pl.ok;have hk:stk s.c.S < 65536:=by unfold stk;omega
 obtain⟨b0,b2⟩:=methR;rcases o with _|B
 ·go_enter Tryz.func183,Tryz.ntmps183;obtain⟨g0,g1,g2,g3,g4,g5,g6,g7,g8,g9,g10,j,r,E,H,J⟩:=p.cells;go_wp2_with fail;have T:=p.drew;clear g0 g1 g2 g3 g4 g5 g6 g7 g8 g9 g10 j r E H J;obtain⟨g0,g1,g2,g3,g4,g5,g6,g7,g8,g9,g10,j,r,E,H,J⟩:=T.cells;go_region_held3 (fun w'=>w'.cell? ⟨P,11,none⟩=some (busV none)/\w'.cell? ⟨P,3,none⟩=some (.int .u8 (s.c.S:Int)))
  (((try dsimp only);(first|(with_reducible exact⟨j,g3⟩)|(with_reducible exact O))))
  (first|(go_at_call 159;refine (tEA _ dQ _).mono ?_;rintro e u2 ⟨rfl,rfl⟩)|(refine (T.read _ _ rfl hk dQ rfl rfl).mono ?_;rintro e w3 ⟨rfl,p4⟩;have O:w3.cell? ⟨P,11,none⟩=some (busV none)/\w3.cell? ⟨P,3,none⟩=some (.int .u8 (s.c.S:Int)):=⟨p4.cells.2.2.2.2.2.2.2.2.2.2.2.1,p4.cells.2.2.2.1⟩))
  clear g0 g1 g2 g3 g4 g5 g6 g7 g8 g9 g10 j r E H J;clear O;go_wp2
  (try simp only[Exit.inBlock,Exit.then])
  first|refine bodyPost_ret (results_none rfl _ _ _) rfl ?_|refine bodyPost_end (results_none rfl _ _ _) rfl ?_
  refine⟨rfl,?_⟩;exact (by subst hs;exact p4)
 ·go_enter Tryz.func183,Tryz.ntmps183;obtain⟨g0,g1,g2,g3,g4,g5,g6,g7,g8,g9,g10,j,r,E,H,J⟩:=p.cells;go_wp2_with fail;have T:=p.drew;clear g0 g1 g2 g3 g4 g5 g6 g7 g8 g9 g10 j r E H J;obtain⟨g0,g1,g2,g3,g4,g5,g6,g7,g8,g9,g10,j,r,E,H,J⟩:=T.cells;go_region_held3 (fun w'=>w'.cell? ⟨P,11,none⟩=some (busV (some B))/\w'.cell? ⟨P,3,none⟩=some (.int .u8 (s.c.S:Int)))
  (((try dsimp only);(first|(with_reducible exact⟨j,g3⟩)|(with_reducible exact O))))
  (first|(go_at_call 159;refine (tEA _ dQ _).mono ?_;rintro e u2 ⟨rfl,rfl⟩)|(refine (T.read _ _ rfl hk dQ rfl rfl).mono ?_;rintro e w3 ⟨rfl,p4⟩;have O:w3.cell? ⟨P,11,none⟩=some (busV (some B))/\w3.cell? ⟨P,3,none⟩=some (.int .u8 (s.c.S:Int)):=⟨p4.cells.2.2.2.2.2.2.2.2.2.2.2.1,p4.cells.2.2.2.1⟩))
  clear g0 g1 g2 g3 g4 g5 g6 g7 g8 g9 g10 j r E H J;clear O;go_wp2
  (try simp only[Exit.inBlock,Exit.then])
  first|refine bodyPost_ret (results_none rfl _ _ _) rfl ?_|refine bodyPost_end (results_none rfl _ _ _) rfl ?_
  refine⟨rfl,?_⟩;exact (by subst hs;exact p4)
theorem Play.push {F:Nat->Prop} {w W:World} {P:Nat} {o:Option Nat} {k:OpK} {s:St} {N:Nat} (p:Play F w W P o k s N) (x:Int) (d:Nat) (hx:x=(d:Int)) (hd:d < 256) (hN:N<=88) {s':St} (hs:s.push d=s') :
  Calls Tryz.prog 154 #[.pointer (some ⟨P,0,none⟩),.int .u8 x] W fun e w'=>e=.returned (.tuple #[])/\Play F w w' P o k s' (N+1):=by
 obtain⟨hA,hX,hY,hS,hP⟩:=p.pl.ok;subst hx;have hk:stk s.c.S < 65536:=by unfold stk;omega
 obtain⟨b0,b2⟩:=methW;rcases o with _|B
 ·go_enter Tryz.func154,Tryz.ntmps154;obtain⟨g0,g1,g2,g3,g4,g5,g6,g7,g8,g9,g10,j,r,E,H,J⟩:=p.cells;go_wp2_with fail;have T:=p.drew;clear g0 g1 g2 g3 g4 g5 g6 g7 g8 g9 g10 j r E H J;obtain⟨g0,g1,g2,g3,g4,g5,g6,g7,g8,g9,g10,j,r,E,H,J⟩:=T.cells;go_region_held3 (fun w'=>w'.cell? ⟨P,11,none⟩=some (busV none)/\w'.cell? ⟨P,3,none⟩=some (.int .u8 (s.c.S:Int)))
  (((try dsimp only);(first|(with_reducible exact⟨j,g3⟩)|(with_reducible exact O))))
  (first|(go_at_call 159;refine (tEA _ dQ _).mono ?_;rintro e u2 ⟨rfl,rfl⟩)|(refine (T.write _ _ _ _ rfl rfl hk hd dQ rfl).mono ?_;rintro e w3 ⟨rfl,p4⟩;have O:w3.cell? ⟨P,11,none⟩=some (busV none)/\w3.cell? ⟨P,3,none⟩=some (.int .u8 (s.c.S:Int)):=⟨p4.cells.2.2.2.2.2.2.2.2.2.2.2.1,p4.cells.2.2.2.1⟩))
  clear g0 g1 g2 g3 g4 g5 g6 g7 g8 g9 g10 j r E H J;clear O;obtain⟨g0,g1,g2,g3,g4,g5,g6,g7,g8,g9,g10,j,r,E,H,J⟩:=p4.cells;go_wp2
  (try simp only[Exit.inBlock,Exit.then])
  first|refine bodyPost_ret (results_none rfl _ _ _) rfl ?_|refine bodyPost_end (results_none rfl _ _ _) rfl ?_
  refine⟨rfl,?_⟩;exact p4.setS _ ((s.c.S+255) % 256) gQh dQ hs
 ·go_enter Tryz.func154,Tryz.ntmps154;obtain⟨g0,g1,g2,g3,g4,g5,g6,g7,g8,g9,g10,j,r,E,H,J⟩:=p.cells;go_wp2_with fail;have T:=p.drew;clear g0 g1 g2 g3 g4 g5 g6 g7 g8 g9 g10 j r E H J;obtain⟨g0,g1,g2,g3,g4,g5,g6,g7,g8,g9,g10,j,r,E,H,J⟩:=T.cells;go_region_held3 (fun w'=>w'.cell? ⟨P,11,none⟩=some (busV (some B))/\w'.cell? ⟨P,3,none⟩=some (.int .u8 (s.c.S:Int)))
  (((try dsimp only);(first|(with_reducible exact⟨j,g3⟩)|(with_reducible exact O))))
  (first|(go_at_call 159;refine (tEA _ dQ _).mono ?_;rintro e u2 ⟨rfl,rfl⟩)|(refine (T.write _ _ _ _ rfl rfl hk hd dQ rfl).mono ?_;rintro e w3 ⟨rfl,p4⟩;have O:w3.cell? ⟨P,11,none⟩=some (busV (some B))/\w3.cell? ⟨P,3,none⟩=some (.int .u8 (s.c.S:Int)):=⟨p4.cells.2.2.2.2.2.2.2.2.2.2.2.1,p4.cells.2.2.2.1⟩))
  clear g0 g1 g2 g3 g4 g5 g6 g7 g8 g9 g10 j r E H J;clear O;obtain⟨g0,g1,g2,g3,g4,g5,g6,g7,g8,g9,g10,j,r,E,H,J⟩:=p4.cells;go_wp2
  (try simp only[Exit.inBlock,Exit.then])
  first|refine bodyPost_ret (results_none rfl _ _ _) rfl ?_|refine bodyPost_end (results_none rfl _ _ _) rfl ?_
  refine⟨rfl,?_⟩;exact p4.setS _ ((s.c.S+255) % 256) gQh dQ hs
theorem Play.pull {F:Nat->Prop} {w W:World} {P:Nat} {o:Option Nat} {k:OpK} {s:St} {N:Nat} (p:Play F w W P o k s N) (hN:N<=88) {z:Nat} {s':St} (hz:s.pull.1=z) (hs:s.pull.2=s') :
  Calls Tryz.prog 186 #[.pointer (some ⟨P,0,none⟩)] W fun e w'=>e=.returned (.int .u8 (z:Int))/\Play F w w' P o k s' (N+1):=by
 obtain⟨hA,hX,hY,hS,hP⟩:=p.pl.ok;have hk:stk (s.c.S+1) < 65536:=by unfold stk;omega
 obtain⟨y,hy⟩:∃ K,(s.c.S+1) % 256=K:=⟨_,rfl⟩;have yb:y < 256:=dQ;have a8:stk y=stk (s.c.S+1):=by unfold stk;omega
 have a0:s.b.get (stk y)=z:=by rw[a8];exact hz
 have Q:(⟨{ s.c with S:=y },s.b.rd (stk y)⟩:St)=s':=by rw[a8,<-hy];exact hs
 rw[<-a8] at hk;have e3:IntKind.u8.wrap ((s.c.S:Int)+1)=(y:Int):=dQd;have HZ:=j_ a0;have HS:=j_ Q;clear a8 a0 Q hz hs;have Hy:=j_ hy;clear hy;obtain⟨b0,b2⟩:=methR;rcases o with _|B
 ·go_enter Tryz.func186,Tryz.ntmps186;obtain⟨g0,g1,g2,g3,g4,g5,g6,g7,g8,g9,g10,j,r,E,H,J⟩:=p.cells;go_wp2_with fail;have T:=p.setS _ (y) rfl dQ rfl;clear g0 g1 g2 g3 g4 g5 g6 g7 g8 g9 g10 j r E H J;generalize W.setCell ⟨P,3,none⟩ (.int .u8 ((y:Nat):Int))=W2 at T ⊢;clear e3;go_wp2_with fail;have p3:=T.drew;obtain⟨g0,g1,g2,g3,g4,g5,g6,g7,g8,g9,g10,j,r,E,H,J⟩:=p3.cells;go_region_held3 (fun w'=>w'.cell? ⟨P,11,none⟩=some (busV none)/\w'.cell? ⟨P,3,none⟩=some (.int .u8 (y:Int)))
  (((try dsimp only);(first|(with_reducible exact⟨j,g3⟩)|(with_reducible exact a7))))
  (first|(go_at_call 159;refine (tEA _ dQ _).mono ?_;rintro e u4 ⟨rfl,rfl⟩)|(refine (p3.read _ _ rfl hk dQ HZ.out rfl).mono ?_;rintro e w5 ⟨rfl,p6⟩;have a7:w5.cell? ⟨P,11,none⟩=some (busV none)/\w5.cell? ⟨P,3,none⟩=some (.int .u8 (y:Int)):=⟨p6.cells.2.2.2.2.2.2.2.2.2.2.2.1,p6.cells.2.2.2.1⟩))
  clear g0 g1 g2 g3 g4 g5 g6 g7 g8 g9 g10 j r E H J;clear a7;go_wp2;go_ret;refine⟨rfl,?_⟩;exact (by rw[<-HS.out];exact p6)
 ·go_enter Tryz.func186,Tryz.ntmps186;obtain⟨g0,g1,g2,g3,g4,g5,g6,g7,g8,g9,g10,j,r,E,H,J⟩:=p.cells;go_wp2_with fail;have T:=p.setS _ (y) rfl dQ rfl;clear g0 g1 g2 g3 g4 g5 g6 g7 g8 g9 g10 j r E H J;generalize W.setCell ⟨P,3,none⟩ (.int .u8 ((y:Nat):Int))=W2 at T ⊢;clear e3;go_wp2_with fail;have p3:=T.drew;obtain⟨g0,g1,g2,g3,g4,g5,g6,g7,g8,g9,g10,j,r,E,H,J⟩:=p3.cells;go_region_held3 (fun w'=>w'.cell? ⟨P,11,none⟩=some (busV (some B))/\w'.cell? ⟨P,3,none⟩=some (.int .u8 (y:Int)))
  (((try dsimp only);(first|(with_reducible exact⟨j,g3⟩)|(with_reducible exact a7))))
  (first|(go_at_call 159;refine (tEA _ dQ _).mono ?_;rintro e u4 ⟨rfl,rfl⟩)|(refine (p3.read _ _ rfl hk dQ HZ.out rfl).mono ?_;rintro e w5 ⟨rfl,p6⟩;have a7:w5.cell? ⟨P,11,none⟩=some (busV (some B))/\w5.cell? ⟨P,3,none⟩=some (.int .u8 (y:Int)):=⟨p6.cells.2.2.2.2.2.2.2.2.2.2.2.1,p6.cells.2.2.2.1⟩))
  clear g0 g1 g2 g3 g4 g5 g6 g7 g8 g9 g10 j r E H J;clear a7;go_wp2;go_ret;refine⟨rfl,?_⟩;exact (by rw[<-HS.out];exact p6)
theorem Play.pushPC {F:Nat->Prop} {w W:World} {P:Nat} {o:Option Nat} {k:OpK} {s:St} {N:Nat} (p:Play F w W P o k s N) (hN:N<=86) {s':St} (hs:s.pushPC=s') :
  Calls Tryz.prog 153 #[.pointer (some ⟨P,0,none⟩)] W fun e w'=>e=.returned (.tuple #[])/\Play F w w' P o k s' (N+2):=by
 obtain⟨hA,hX,hY,hS,hP⟩:=p.pl.ok;obtain⟨h,hh⟩:∃ K,s.c.PC / 256=K:=⟨_,rfl⟩;obtain⟨l,hl⟩:∃ K,s.c.PC % 256=K:=⟨_,rfl⟩;obtain⟨s1,hs1⟩:∃ K,s.push h=K:=⟨_,rfl⟩;have hb:h < 256:=dQ;have lb:l < 256:=dQ;have e4:s1.c.PC=s.c.PC:=by rw[<-hs1];rfl
 have Q:s1.push l=s':=by rw[<-hs,<-hs1,<-hl,<-hh];rfl
 have a5:=j_ hs1;clear hs1;go_enter Tryz.func153,Tryz.ntmps153;obtain⟨g0,g1,g2,g3,g4,g5,g6,g7,g8,g9,g10,j,r,E,H,J⟩:=p.cells;go_wp2_with fail;refine (p.push _ h uQb hb dQ a5.out).mono ?_;rintro e w1 ⟨rfl,p2⟩;clear g0 g1 g2 g3 g4 g5 g6 g7 g8 g9 g10 j r E H J;obtain⟨g0,g1,g2,g3,g4,g5,g6,g7,g8,g9,g10,j,r,E,H,J⟩:=p2.cells;rw[e4] at g4;go_wp2_with fail;refine (p2.push _ l uQb lb dQ Q).mono ?_;rintro e w3 ⟨rfl,p4⟩;clear g0 g1 g2 g3 g4 g5 g6 g7 g8 g9 g10 j r E H J;clear p2;go_wp2
 (try simp only[Exit.inBlock,Exit.then])
 first|refine bodyPost_ret (results_none rfl _ _ _) rfl ?_|refine bodyPost_end (results_none rfl _ _ _) rfl ?_
 refine⟨rfl,?_⟩;exact p4
theorem Play.pullPC {F:Nat->Prop} {w W:World} {P:Nat} {o:Option Nat} {k:OpK} {s:St} {N:Nat} (p:Play F w W P o k s N) (hN:N<=86) {s':St} (hs:s.pullPC=s') :
  Calls Tryz.prog 184 #[.pointer (some ⟨P,0,none⟩)] W fun e w'=>e=.returned (.tuple #[])/\Play F w w' P o k s' (N+2):=by
 obtain⟨hA,hX,hY,hS,hP⟩:=p.pl.ok;obtain⟨z1,hz1⟩:∃ K,s.pull.1=K:=⟨_,rfl⟩;obtain⟨s1,hs1⟩:∃ K,s.pull.2=K:=⟨_,rfl⟩;obtain⟨z2,R⟩:∃ K,s1.pull.1=K:=⟨_,rfl⟩;obtain⟨s2,U⟩:∃ K,s1.pull.2=K:=⟨_,rfl⟩;obtain⟨x,hx⟩:∃ K,word z1 z2=K:=⟨_,rfl⟩;have Q:(⟨{ s2.c with PC:=x },s2.b⟩:St)=s':=by rw[<-hs,<-hx,<-U,<-R,<-hs1,<-hz1];rfl
 have a4:z1 < 256:=uQd;have Hz1:=j_ hz1;have a5:=j_ hs1;have Hz2:=j_ R;have a9:=j_ U;have Hx:=j_ hx;clear hz1 hs1 R U hx;go_enter Tryz.func184,Tryz.ntmps184;go_wp2_with fail;refine (p.pull dQ Hz1.out a5.out).mono ?_;rintro e w1 ⟨rfl,p2⟩;have a3:z2 < 256:=xQh;go_wp2_with fail;refine (p2.pull dQ Hz2.out a9.out).mono ?_;rintro e w3 ⟨rfl,p4⟩;clear p2;go_wp2_with fail;refine (zFA z1 z2 a4 a3 Hx.out _).mono ?_;rintro e w5 ⟨rfl,rfl⟩;have xb:x < 65536:=by rw[<-Hx.out];unfold word;omega
 obtain⟨g0,g1,g2,g3,g4,g5,g6,g7,g8,g9,g10,j,r,E,H,J⟩:=p4.cells;go_wp2
 (try simp only[Exit.inBlock,Exit.then])
 first|refine bodyPost_ret (results_none rfl _ _ _) rfl ?_|refine bodyPost_end (results_none rfl _ _ _) rfl ?_
 refine⟨rfl,?_⟩;exact p4.setPC _ x rfl xb Q

end Go.Proofs.YtckfdbjjjgfbfaaGreat
