import Derived.Test.YtckfdbjjjgfbfaaGreatVPlayG
set_option linter.unusedVariables false
set_option linter.unusedSimpArgs false
set_option maxRecDepth 100000
set_option maxHeartbeats 2000000
namespace Go.Proofs.YtckfdbjjjgfbfaaGreat
open Go.RowKit
theorem kGA {l:List UInt8} {m:Nat} {c:Bool} (R:m < 256):chgB l m c < 256:=by
 have h1:=zBA (m:Int) true false dQ dQ;have h2:=zBA (m:Int) false false dQ dQ;have h3:=zBA (m:Int) true c dQ dQ;have h4:=zBA (m:Int) false c dQ dQ;unfold chgB;repeat' split
 all_goals omega
theorem Play.implied_INX {F:Nat->Prop} {w W:World} {P:Nat} {o:Option Nat} {k:OpK} {s:St} {N:Nat} (p:Play F w W P o k s N) (hk:k.nm=⟨#[73,78,88]⟩) (R:k.md=0) (hN:N<=88) {s':St} (hs:⟨impL s.c [73,78,88] 0,s.b.rd s.c.PC⟩=s') :
  Calls Tryz.prog 162 #[.pointer (some ⟨P,0,none⟩)] W fun e w'=>e=.returned (.tuple #[])/\Play F w w' P o k s' (N+1):=by
 obtain⟨hA,hX,hY,hS,hP⟩:=p.pl.ok;obtain⟨K,hb1⟩:∃ O,s.b.rd s.c.PC=O:=⟨_,rfl⟩;obtain⟨v,hv⟩:∃ O,(s.c.X+1) % 256=O:=⟨_,rfl⟩;have vb:v < 256:=dQ;have B:(⟨{ s.c with X:=v,N:=bit7 (v:Nat),Z:=isZ (v:Nat) },K⟩:St)=s':=iQf;have z:=j_ B;clear hs B;have Hb1:=j_ hb1;have Hv:=j_ hv;clear hb1 hv;go_enter Tryz.func162,Tryz.ntmps162;go_wp2_with fail;refine (p.idle dQ (s':=⟨s.c,K⟩) gQc).mono ?_;rintro e w1 ⟨rfl,p2⟩;obtain⟨g0,g1,g2,g3,g4,g5,g6,g7,g8,g9,g10,E,j,r,H,J⟩:=p2.cells;rw[hk] at j;rw[R] at r;go_wp2_with fail;refine (p2.moved_INX hk).mono ?_;rintro e w3 ⟨rfl,rfl⟩;dsimp only;rw[Hv.out];go_wp2_with fail;have Q:=p2.setX _ (v) rfl vb rfl;clear g0 g1 g2 g3 g4 g5 g6 g7 g8 g9 g10 E j r H J;clear p2;generalize w1.setCell ⟨P,1,none⟩ (.int .u8 ((v:Nat):Int))=W5 at Q ⊢;obtain⟨g0,g1,g2,g3,g4,g5,g6,g7,g8,g9,g10,E,j,r,H,J⟩:=Q.cells;rw[hk] at j;go_wp2_with fail;clear g0 g1 g2 g3 g4 g5 g6 g7 g8 g9 g10 E j r H J;go_wp2_with fail;have T:=Q.drew;have g1:=T.cells.2.1;have g5:=T.cells.2.2.2.2.2.1;have g6:=T.cells.2.2.2.2.2.2.1;have g7:=T.cells.2.2.2.2.2.2.2.1;have g8:=T.cells.2.2.2.2.2.2.2.2.1;have g9:=T.cells.2.2.2.2.2.2.2.2.2.1;have g10:=T.cells.2.2.2.2.2.2.2.2.2.2.1;have J:=T.cells.2.2.2.2.2.2.2.2.2.2.2.2.2.2.2;go_region_with (go_at_call 176;refine (iBA _ _ _ _ _ _ _ _ dQ dQ).mono ?_;rintro e w7 ⟨rfl,d8⟩;(have U:=T.below d8);clear g1 g5 g6 g7 g8 g9 g10 J;(have g1:=U.cells.2.1);(have g5:=U.cells.2.2.2.2.2.1);(have g6:=U.cells.2.2.2.2.2.2.1);(have g7:=U.cells.2.2.2.2.2.2.2.1);(have g8:=U.cells.2.2.2.2.2.2.2.2.1);(have g9:=U.cells.2.2.2.2.2.2.2.2.2.1);(have g10:=U.cells.2.2.2.2.2.2.2.2.2.2.1);(have J:=U.cells.2.2.2.2.2.2.2.2.2.2.2.2.2.2.2));all_goals
  go_wp2
  (try simp only[Exit.inBlock,Exit.then])
  first|refine bodyPost_ret (results_none rfl _ _ _) rfl ?_|refine bodyPost_end (results_none rfl _ _ _) rfl ?_
  refine⟨rfl,?_⟩;exact U.flags _ _ _ _ _ _ z.out
theorem Play.implied_CLC {F:Nat->Prop} {w W:World} {P:Nat} {o:Option Nat} {k:OpK} {s:St} {N:Nat} (p:Play F w W P o k s N) (hk:k.nm=⟨#[67,76,67]⟩) (R:k.md=0) (hN:N<=88) {s':St} (hs:⟨impL s.c [67,76,67] 0,s.b.rd s.c.PC⟩=s') :
  Calls Tryz.prog 162 #[.pointer (some ⟨P,0,none⟩)] W fun e w'=>e=.returned (.tuple #[])/\Play F w w' P o k s' (N+1):=by
 obtain⟨hA,hX,hY,hS,hP⟩:=p.pl.ok;obtain⟨K,hb1⟩:∃ O,s.b.rd s.c.PC=O:=⟨_,rfl⟩;have B:(⟨flagL s.c [67,76,67],K⟩:St)=s':=wQd;have z:=j_ B;clear hs B;have Hb1:=j_ hb1;clear hb1;go_enter Tryz.func162,Tryz.ntmps162;go_wp2_with fail;refine (p.idle dQ (s':=⟨s.c,K⟩) gQc).mono ?_;rintro e w1 ⟨rfl,p2⟩;obtain⟨g0,g1,g2,g3,g4,g5,g6,g7,g8,g9,g10,E,j,r,H,J⟩:=p2.cells;rw[hk] at j;rw[R] at r;go_wp2_with fail;refine (p2.turnFlag_CLC hk dQ z.out).mono ?_;rintro e w3 ⟨rfl,Q⟩;clear g0 g1 g2 g3 g4 g5 g6 g7 g8 g9 g10 E j r H J;clear p2;go_wp2
 (try simp only[Exit.inBlock,Exit.then])
 first|refine bodyPost_ret (results_none rfl _ _ _) rfl ?_|refine bodyPost_end (results_none rfl _ _ _) rfl ?_
 refine⟨rfl,?_⟩;exact Q
theorem Play.implied_SEC {F:Nat->Prop} {w W:World} {P:Nat} {o:Option Nat} {k:OpK} {s:St} {N:Nat} (p:Play F w W P o k s N) (hk:k.nm=⟨#[83,69,67]⟩) (R:k.md=0) (hN:N<=88) {s':St} (hs:⟨impL s.c [83,69,67] 0,s.b.rd s.c.PC⟩=s') :
  Calls Tryz.prog 162 #[.pointer (some ⟨P,0,none⟩)] W fun e w'=>e=.returned (.tuple #[])/\Play F w w' P o k s' (N+1):=by
 obtain⟨hA,hX,hY,hS,hP⟩:=p.pl.ok;obtain⟨K,hb1⟩:∃ O,s.b.rd s.c.PC=O:=⟨_,rfl⟩;have B:(⟨flagL s.c [83,69,67],K⟩:St)=s':=wQd;have z:=j_ B;clear hs B;have Hb1:=j_ hb1;clear hb1;go_enter Tryz.func162,Tryz.ntmps162;go_wp2_with fail;refine (p.idle dQ (s':=⟨s.c,K⟩) gQc).mono ?_;rintro e w1 ⟨rfl,p2⟩;obtain⟨g0,g1,g2,g3,g4,g5,g6,g7,g8,g9,g10,E,j,r,H,J⟩:=p2.cells;rw[hk] at j;rw[R] at r;go_wp2_with fail;refine (p2.turnFlag_SEC hk dQ z.out).mono ?_;rintro e w3 ⟨rfl,Q⟩;clear g0 g1 g2 g3 g4 g5 g6 g7 g8 g9 g10 E j r H J;clear p2;go_wp2
 (try simp only[Exit.inBlock,Exit.then])
 first|refine bodyPost_ret (results_none rfl _ _ _) rfl ?_|refine bodyPost_end (results_none rfl _ _ _) rfl ?_
 refine⟨rfl,?_⟩;exact Q
theorem Play.implied_CLI {F:Nat->Prop} {w W:World} {P:Nat} {o:Option Nat} {k:OpK} {s:St} {N:Nat} (p:Play F w W P o k s N) (hk:k.nm=⟨#[67,76,73]⟩) (R:k.md=0) (hN:N<=88) {s':St} (hs:⟨impL s.c [67,76,73] 0,s.b.rd s.c.PC⟩=s') :
  Calls Tryz.prog 162 #[.pointer (some ⟨P,0,none⟩)] W fun e w'=>e=.returned (.tuple #[])/\Play F w w' P o k s' (N+1):=by
 obtain⟨hA,hX,hY,hS,hP⟩:=p.pl.ok;obtain⟨K,hb1⟩:∃ O,s.b.rd s.c.PC=O:=⟨_,rfl⟩;have B:(⟨flagL s.c [67,76,73],K⟩:St)=s':=wQd;have z:=j_ B;clear hs B;have Hb1:=j_ hb1;clear hb1;go_enter Tryz.func162,Tryz.ntmps162;go_wp2_with fail;refine (p.idle dQ (s':=⟨s.c,K⟩) gQc).mono ?_;rintro e w1 ⟨rfl,p2⟩;obtain⟨g0,g1,g2,g3,g4,g5,g6,g7,g8,g9,g10,E,j,r,H,J⟩:=p2.cells;rw[hk] at j;rw[R] at r;go_wp2_with fail;refine (p2.turnFlag_CLI hk dQ z.out).mono ?_;rintro e w3 ⟨rfl,Q⟩;clear g0 g1 g2 g3 g4 g5 g6 g7 g8 g9 g10 E j r H J;clear p2;go_wp2
 (try simp only[Exit.inBlock,Exit.then])
 first|refine bodyPost_ret (results_none rfl _ _ _) rfl ?_|refine bodyPost_end (results_none rfl _ _ _) rfl ?_
 refine⟨rfl,?_⟩;exact Q
theorem Play.implied_SEI {F:Nat->Prop} {w W:World} {P:Nat} {o:Option Nat} {k:OpK} {s:St} {N:Nat} (p:Play F w W P o k s N) (hk:k.nm=⟨#[83,69,73]⟩) (R:k.md=0) (hN:N<=88) {s':St} (hs:⟨impL s.c [83,69,73] 0,s.b.rd s.c.PC⟩=s') :
  Calls Tryz.prog 162 #[.pointer (some ⟨P,0,none⟩)] W fun e w'=>e=.returned (.tuple #[])/\Play F w w' P o k s' (N+1):=by
 obtain⟨hA,hX,hY,hS,hP⟩:=p.pl.ok;obtain⟨K,hb1⟩:∃ O,s.b.rd s.c.PC=O:=⟨_,rfl⟩;have B:(⟨flagL s.c [83,69,73],K⟩:St)=s':=wQd;have z:=j_ B;clear hs B;have Hb1:=j_ hb1;clear hb1;go_enter Tryz.func162,Tryz.ntmps162;go_wp2_with fail;refine (p.idle dQ (s':=⟨s.c,K⟩) gQc).mono ?_;rintro e w1 ⟨rfl,p2⟩;obtain⟨g0,g1,g2,g3,g4,g5,g6,g7,g8,g9,g10,E,j,r,H,J⟩:=p2.cells;rw[hk] at j;rw[R] at r;go_wp2_with fail;refine (p2.turnFlag_SEI hk dQ z.out).mono ?_;rintro e w3 ⟨rfl,Q⟩;clear g0 g1 g2 g3 g4 g5 g6 g7 g8 g9 g10 E j r H J;clear p2;go_wp2
 (try simp only[Exit.inBlock,Exit.then])
 first|refine bodyPost_ret (results_none rfl _ _ _) rfl ?_|refine bodyPost_end (results_none rfl _ _ _) rfl ?_
 refine⟨rfl,?_⟩;exact Q
theorem Play.implied_TYA {F:Nat->Prop} {w W:World} {P:Nat} {o:Option Nat} {k:OpK} {s:St} {N:Nat} (p:Play F w W P o k s N) (hk:k.nm=⟨#[84,89,65]⟩) (R:k.md=0) (hN:N<=88) {s':St} (hs:⟨impL s.c [84,89,65] 0,s.b.rd s.c.PC⟩=s') :
  Calls Tryz.prog 162 #[.pointer (some ⟨P,0,none⟩)] W fun e w'=>e=.returned (.tuple #[])/\Play F w w' P o k s' (N+1):=by
 obtain⟨hA,hX,hY,hS,hP⟩:=p.pl.ok;obtain⟨K,hb1⟩:∃ O,s.b.rd s.c.PC=O:=⟨_,rfl⟩;have vb:s.c.Y < 256:=dQ;have B:(⟨{ s.c with A:=s.c.Y,N:=bit7 (s.c.Y:Nat),Z:=isZ (s.c.Y:Nat) },K⟩:St)=s':=kQd;have z:=j_ B;clear hs B;have Hb1:=j_ hb1;clear hb1;go_enter Tryz.func162,Tryz.ntmps162;go_wp2_with fail;refine (p.idle dQ (s':=⟨s.c,K⟩) gQc).mono ?_;rintro e w1 ⟨rfl,p2⟩;obtain⟨g0,g1,g2,g3,g4,g5,g6,g7,g8,g9,g10,E,j,r,H,J⟩:=p2.cells;rw[hk] at j;rw[R] at r;go_wp2_with fail;refine (p2.moved_TYA hk).mono ?_;rintro e w3 ⟨rfl,rfl⟩;go_wp2_with fail;have Q:=p2.setA _ (s.c.Y) rfl vb rfl;clear g0 g1 g2 g3 g4 g5 g6 g7 g8 g9 g10 E j r H J;clear p2;generalize w1.setCell ⟨P,0,none⟩ (.int .u8 ((s.c.Y:Nat):Int))=W5 at Q ⊢;obtain⟨g0,g1,g2,g3,g4,g5,g6,g7,g8,g9,g10,E,j,r,H,J⟩:=Q.cells;rw[hk] at j;go_wp2_with fail;clear g0 g1 g2 g3 g4 g5 g6 g7 g8 g9 g10 E j r H J;go_wp2_with fail;have T:=Q.drew;have g0:=T.cells.1;have g5:=T.cells.2.2.2.2.2.1;have g6:=T.cells.2.2.2.2.2.2.1;have g7:=T.cells.2.2.2.2.2.2.2.1;have g8:=T.cells.2.2.2.2.2.2.2.2.1;have g9:=T.cells.2.2.2.2.2.2.2.2.2.1;have g10:=T.cells.2.2.2.2.2.2.2.2.2.2.1;have J:=T.cells.2.2.2.2.2.2.2.2.2.2.2.2.2.2.2;go_region_with (go_at_call 176;refine (iBA _ _ _ _ _ _ _ _ dQ dQ).mono ?_;rintro e w7 ⟨rfl,d8⟩;(have U:=T.below d8);clear g0 g5 g6 g7 g8 g9 g10 J;(have g0:=U.cells.1);(have g5:=U.cells.2.2.2.2.2.1);(have g6:=U.cells.2.2.2.2.2.2.1);(have g7:=U.cells.2.2.2.2.2.2.2.1);(have g8:=U.cells.2.2.2.2.2.2.2.2.1);(have g9:=U.cells.2.2.2.2.2.2.2.2.2.1);(have g10:=U.cells.2.2.2.2.2.2.2.2.2.2.1);(have J:=U.cells.2.2.2.2.2.2.2.2.2.2.2.2.2.2.2));all_goals
  go_wp2
  (try simp only[Exit.inBlock,Exit.then])
  first|refine bodyPost_ret (results_none rfl _ _ _) rfl ?_|refine bodyPost_end (results_none rfl _ _ _) rfl ?_
  refine⟨rfl,?_⟩;exact U.flags _ _ _ _ _ _ z.out
theorem Play.implied_CLV {F:Nat->Prop} {w W:World} {P:Nat} {o:Option Nat} {k:OpK} {s:St} {N:Nat} (p:Play F w W P o k s N) (hk:k.nm=⟨#[67,76,86]⟩) (R:k.md=0) (hN:N<=88) {s':St} (hs:⟨impL s.c [67,76,86] 0,s.b.rd s.c.PC⟩=s') :
  Calls Tryz.prog 162 #[.pointer (some ⟨P,0,none⟩)] W fun e w'=>e=.returned (.tuple #[])/\Play F w w' P o k s' (N+1):=by
 obtain⟨hA,hX,hY,hS,hP⟩:=p.pl.ok;obtain⟨K,hb1⟩:∃ O,s.b.rd s.c.PC=O:=⟨_,rfl⟩;have B:(⟨flagL s.c [67,76,86],K⟩:St)=s':=wQd;have z:=j_ B;clear hs B;have Hb1:=j_ hb1;clear hb1;go_enter Tryz.func162,Tryz.ntmps162;go_wp2_with fail;refine (p.idle dQ (s':=⟨s.c,K⟩) gQc).mono ?_;rintro e w1 ⟨rfl,p2⟩;obtain⟨g0,g1,g2,g3,g4,g5,g6,g7,g8,g9,g10,E,j,r,H,J⟩:=p2.cells;rw[hk] at j;rw[R] at r;go_wp2_with fail;refine (p2.turnFlag_CLV hk dQ z.out).mono ?_;rintro e w3 ⟨rfl,Q⟩;clear g0 g1 g2 g3 g4 g5 g6 g7 g8 g9 g10 E j r H J;clear p2;go_wp2
 (try simp only[Exit.inBlock,Exit.then])
 first|refine bodyPost_ret (results_none rfl _ _ _) rfl ?_|refine bodyPost_end (results_none rfl _ _ _) rfl ?_
 refine⟨rfl,?_⟩;exact Q
theorem Play.implied_CLD {F:Nat->Prop} {w W:World} {P:Nat} {o:Option Nat} {k:OpK} {s:St} {N:Nat} (p:Play F w W P o k s N) (hk:k.nm=⟨#[67,76,68]⟩) (R:k.md=0) (hN:N<=88) {s':St} (hs:⟨impL s.c [67,76,68] 0,s.b.rd s.c.PC⟩=s') :
  Calls Tryz.prog 162 #[.pointer (some ⟨P,0,none⟩)] W fun e w'=>e=.returned (.tuple #[])/\Play F w w' P o k s' (N+1):=by
 obtain⟨hA,hX,hY,hS,hP⟩:=p.pl.ok;obtain⟨K,hb1⟩:∃ O,s.b.rd s.c.PC=O:=⟨_,rfl⟩;have B:(⟨flagL s.c [67,76,68],K⟩:St)=s':=wQd;have z:=j_ B;clear hs B;have Hb1:=j_ hb1;clear hb1;go_enter Tryz.func162,Tryz.ntmps162;go_wp2_with fail;refine (p.idle dQ (s':=⟨s.c,K⟩) gQc).mono ?_;rintro e w1 ⟨rfl,p2⟩;obtain⟨g0,g1,g2,g3,g4,g5,g6,g7,g8,g9,g10,E,j,r,H,J⟩:=p2.cells;rw[hk] at j;rw[R] at r;go_wp2_with fail;refine (p2.turnFlag_CLD hk dQ z.out).mono ?_;rintro e w3 ⟨rfl,Q⟩;clear g0 g1 g2 g3 g4 g5 g6 g7 g8 g9 g10 E j r H J;clear p2;go_wp2
 (try simp only[Exit.inBlock,Exit.then])
 first|refine bodyPost_ret (results_none rfl _ _ _) rfl ?_|refine bodyPost_end (results_none rfl _ _ _) rfl ?_
 refine⟨rfl,?_⟩;exact Q
theorem Play.implied_SED {F:Nat->Prop} {w W:World} {P:Nat} {o:Option Nat} {k:OpK} {s:St} {N:Nat} (p:Play F w W P o k s N) (hk:k.nm=⟨#[83,69,68]⟩) (R:k.md=0) (hN:N<=88) {s':St} (hs:⟨impL s.c [83,69,68] 0,s.b.rd s.c.PC⟩=s') :
  Calls Tryz.prog 162 #[.pointer (some ⟨P,0,none⟩)] W fun e w'=>e=.returned (.tuple #[])/\Play F w w' P o k s' (N+1):=by
 obtain⟨hA,hX,hY,hS,hP⟩:=p.pl.ok;obtain⟨K,hb1⟩:∃ O,s.b.rd s.c.PC=O:=⟨_,rfl⟩;have B:(⟨flagL s.c [83,69,68],K⟩:St)=s':=wQd;have z:=j_ B;clear hs B;have Hb1:=j_ hb1;clear hb1;go_enter Tryz.func162,Tryz.ntmps162;go_wp2_with fail;refine (p.idle dQ (s':=⟨s.c,K⟩) gQc).mono ?_;rintro e w1 ⟨rfl,p2⟩;obtain⟨g0,g1,g2,g3,g4,g5,g6,g7,g8,g9,g10,E,j,r,H,J⟩:=p2.cells;rw[hk] at j;rw[R] at r;go_wp2_with fail;refine (p2.turnFlag_SED hk dQ z.out).mono ?_;rintro e w3 ⟨rfl,Q⟩;clear g0 g1 g2 g3 g4 g5 g6 g7 g8 g9 g10 E j r H J;clear p2;go_wp2
 (try simp only[Exit.inBlock,Exit.then])
 first|refine bodyPost_ret (results_none rfl _ _ _) rfl ?_|refine bodyPost_end (results_none rfl _ _ _) rfl ?_
 refine⟨rfl,?_⟩;exact Q
theorem Play.acc_ASL {F:Nat->Prop} {w W:World} {P:Nat} {o:Option Nat} {k:OpK} {s:St} {N:Nat} (p:Play F w W P o k s N) (hk:k.nm=⟨#[65,83,76]⟩) (R:k.md=1) (hN:N<=88) {s':St} (hs:⟨impL s.c [65,83,76] 1,s.b.rd s.c.PC⟩=s') :
  Calls Tryz.prog 162 #[.pointer (some ⟨P,0,none⟩)] W fun e w'=>e=.returned (.tuple #[])/\Play F w w' P o k s' (N+1):=by
 obtain⟨hA,hX,hY,hS,hP⟩:=p.pl.ok;obtain⟨K,hb1⟩:∃ O,s.b.rd s.c.PC=O:=⟨_,rfl⟩;obtain⟨y,hy⟩:∃ O,chgB [65,83,76] s.c.A s.c.C=O:=⟨_,rfl⟩;have yb:y < 256:=yQh;have B:(⟨{ s.c.chg [65,83,76] s.c.A with A:=y },K⟩:St)=s':=eQi;have z:=j_ B;clear hs B;have Hb1:=j_ hb1;have Hy:=j_ hy;clear hb1 hy;go_enter Tryz.func162,Tryz.ntmps162;go_wp2_with fail;refine (p.idle dQ (s':=⟨s.c,K⟩) gQc).mono ?_;rintro e w1 ⟨rfl,p2⟩;obtain⟨g0,g1,g2,g3,g4,g5,g6,g7,g8,g9,g10,E,j,r,H,J⟩:=p2.cells;rw[hk] at j;rw[R] at r;go_wp2_with fail;refine (p2.remade_ASL hk s.c.A hA dQ Hy.out rfl).mono ?_;rintro e w3 ⟨rfl,Q⟩;clear g0 g1 g2 g3 g4 g5 g6 g7 g8 g9 g10 E j r H J;clear p2;obtain⟨g0,g1,g2,g3,g4,g5,g6,g7,g8,g9,g10,E,j,r,H,J⟩:=Q.cells;rw[hk] at j;go_wp2
 (try simp only[Exit.inBlock,Exit.then])
 first|refine bodyPost_ret (results_none rfl _ _ _) rfl ?_|refine bodyPost_end (results_none rfl _ _ _) rfl ?_
 refine⟨rfl,?_⟩;exact Q.setA _ y rfl yb z.out
theorem Play.acc_ROL {F:Nat->Prop} {w W:World} {P:Nat} {o:Option Nat} {k:OpK} {s:St} {N:Nat} (p:Play F w W P o k s N) (hk:k.nm=⟨#[82,79,76]⟩) (R:k.md=1) (hN:N<=88) {s':St} (hs:⟨impL s.c [82,79,76] 1,s.b.rd s.c.PC⟩=s') :
  Calls Tryz.prog 162 #[.pointer (some ⟨P,0,none⟩)] W fun e w'=>e=.returned (.tuple #[])/\Play F w w' P o k s' (N+1):=by
 obtain⟨hA,hX,hY,hS,hP⟩:=p.pl.ok;obtain⟨K,hb1⟩:∃ O,s.b.rd s.c.PC=O:=⟨_,rfl⟩;obtain⟨y,hy⟩:∃ O,chgB [82,79,76] s.c.A s.c.C=O:=⟨_,rfl⟩;have yb:y < 256:=yQh;have B:(⟨{ s.c.chg [82,79,76] s.c.A with A:=y },K⟩:St)=s':=eQi;have z:=j_ B;clear hs B;have Hb1:=j_ hb1;have Hy:=j_ hy;clear hb1 hy;go_enter Tryz.func162,Tryz.ntmps162;go_wp2_with fail;refine (p.idle dQ (s':=⟨s.c,K⟩) gQc).mono ?_;rintro e w1 ⟨rfl,p2⟩;obtain⟨g0,g1,g2,g3,g4,g5,g6,g7,g8,g9,g10,E,j,r,H,J⟩:=p2.cells;rw[hk] at j;rw[R] at r;go_wp2_with fail;refine (p2.remade_ROL hk s.c.A hA dQ Hy.out rfl).mono ?_;rintro e w3 ⟨rfl,Q⟩;clear g0 g1 g2 g3 g4 g5 g6 g7 g8 g9 g10 E j r H J;clear p2;obtain⟨g0,g1,g2,g3,g4,g5,g6,g7,g8,g9,g10,E,j,r,H,J⟩:=Q.cells;rw[hk] at j;go_wp2
 (try simp only[Exit.inBlock,Exit.then])
 first|refine bodyPost_ret (results_none rfl _ _ _) rfl ?_|refine bodyPost_end (results_none rfl _ _ _) rfl ?_
 refine⟨rfl,?_⟩;exact Q.setA _ y rfl yb z.out
theorem Play.acc_LSR {F:Nat->Prop} {w W:World} {P:Nat} {o:Option Nat} {k:OpK} {s:St} {N:Nat} (p:Play F w W P o k s N) (hk:k.nm=⟨#[76,83,82]⟩) (R:k.md=1) (hN:N<=88) {s':St} (hs:⟨impL s.c [76,83,82] 1,s.b.rd s.c.PC⟩=s') :
  Calls Tryz.prog 162 #[.pointer (some ⟨P,0,none⟩)] W fun e w'=>e=.returned (.tuple #[])/\Play F w w' P o k s' (N+1):=by
 obtain⟨hA,hX,hY,hS,hP⟩:=p.pl.ok;obtain⟨K,hb1⟩:∃ O,s.b.rd s.c.PC=O:=⟨_,rfl⟩;obtain⟨y,hy⟩:∃ O,chgB [76,83,82] s.c.A s.c.C=O:=⟨_,rfl⟩;have yb:y < 256:=yQh;have B:(⟨{ s.c.chg [76,83,82] s.c.A with A:=y },K⟩:St)=s':=eQi;have z:=j_ B;clear hs B;have Hb1:=j_ hb1;have Hy:=j_ hy;clear hb1 hy;go_enter Tryz.func162,Tryz.ntmps162;go_wp2_with fail;refine (p.idle dQ (s':=⟨s.c,K⟩) gQc).mono ?_;rintro e w1 ⟨rfl,p2⟩;obtain⟨g0,g1,g2,g3,g4,g5,g6,g7,g8,g9,g10,E,j,r,H,J⟩:=p2.cells;rw[hk] at j;rw[R] at r;go_wp2_with fail;refine (p2.remade_LSR hk s.c.A hA dQ Hy.out rfl).mono ?_;rintro e w3 ⟨rfl,Q⟩;clear g0 g1 g2 g3 g4 g5 g6 g7 g8 g9 g10 E j r H J;clear p2;obtain⟨g0,g1,g2,g3,g4,g5,g6,g7,g8,g9,g10,E,j,r,H,J⟩:=Q.cells;rw[hk] at j;go_wp2
 (try simp only[Exit.inBlock,Exit.then])
 first|refine bodyPost_ret (results_none rfl _ _ _) rfl ?_|refine bodyPost_end (results_none rfl _ _ _) rfl ?_
 refine⟨rfl,?_⟩;exact Q.setA _ y rfl yb z.out
theorem Play.acc_ROR {F:Nat->Prop} {w W:World} {P:Nat} {o:Option Nat} {k:OpK} {s:St} {N:Nat} (p:Play F w W P o k s N) (hk:k.nm=⟨#[82,79,82]⟩) (R:k.md=1) (hN:N<=88) {s':St} (hs:⟨impL s.c [82,79,82] 1,s.b.rd s.c.PC⟩=s') :
  Calls Tryz.prog 162 #[.pointer (some ⟨P,0,none⟩)] W fun e w'=>e=.returned (.tuple #[])/\Play F w w' P o k s' (N+1):=by
 obtain⟨hA,hX,hY,hS,hP⟩:=p.pl.ok;obtain⟨K,hb1⟩:∃ O,s.b.rd s.c.PC=O:=⟨_,rfl⟩;obtain⟨y,hy⟩:∃ O,chgB [82,79,82] s.c.A s.c.C=O:=⟨_,rfl⟩;have yb:y < 256:=yQh;have B:(⟨{ s.c.chg [82,79,82] s.c.A with A:=y },K⟩:St)=s':=eQi;have z:=j_ B;clear hs B;have Hb1:=j_ hb1;have Hy:=j_ hy;clear hb1 hy;go_enter Tryz.func162,Tryz.ntmps162;go_wp2_with fail;refine (p.idle dQ (s':=⟨s.c,K⟩) gQc).mono ?_;rintro e w1 ⟨rfl,p2⟩;obtain⟨g0,g1,g2,g3,g4,g5,g6,g7,g8,g9,g10,E,j,r,H,J⟩:=p2.cells;rw[hk] at j;rw[R] at r;go_wp2_with fail;refine (p2.remade_ROR hk s.c.A hA dQ Hy.out rfl).mono ?_;rintro e w3 ⟨rfl,Q⟩;clear g0 g1 g2 g3 g4 g5 g6 g7 g8 g9 g10 E j r H J;clear p2;obtain⟨g0,g1,g2,g3,g4,g5,g6,g7,g8,g9,g10,E,j,r,H,J⟩:=Q.cells;rw[hk] at j;go_wp2
 (try simp only[Exit.inBlock,Exit.then])
 first|refine bodyPost_ret (results_none rfl _ _ _) rfl ?_|refine bodyPost_end (results_none rfl _ _ _) rfl ?_
 refine⟨rfl,?_⟩;exact Q.setA _ y rfl yb z.out

end Go.Proofs.YtckfdbjjjgfbfaaGreat
