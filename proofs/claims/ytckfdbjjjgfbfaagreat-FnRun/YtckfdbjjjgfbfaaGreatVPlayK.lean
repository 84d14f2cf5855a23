import Derived.Test.YtckfdbjjjgfbfaaGreatVPlayL2
set_option linter.unusedVariables false
set_option linter.unusedSimpArgs false
set_option maxRecDepth 100000
set_option maxHeartbeats 4000000
namespace Go.Proofs.YtckfdbjjjgfbfaaGreat
open Go.RowKit
theorem Play.imp_any {F:Nat->Prop} {w W:World} {P:Nat} {o:Option Nat} {k:OpK} {s:St} {N:Nat} (p:Play F w W P o k s N) (i:Nat) (hi:i ∈ [17,18,19,20,21,22,37,38,39,40,49,50,51,52,53,54,55,56]) (hk:k.nm=opTx i) (K:k.md=0) (O:N<=80) {s':St} (hs:(⟨impL s.c (opTx i).toList 0,s.b.rd s.c.PC⟩:St)=s') :
  Calls Tryz.prog 162 #[.pointer (some ⟨P,0,none⟩)] W fun e w'=>e=.returned (.tuple #[])/\Play F w w' P o k s' (N+1):=by
 have O:N<=88:=dQ;simp only[List.mem_cons,List.not_mem_nil,or_false] at hi;rcases hi with rfl|rfl|rfl|rfl|rfl|rfl|rfl|rfl|rfl|rfl|rfl|rfl|rfl|rfl|rfl|rfl|rfl|rfl
 ·rw[show (opTx 17).toList=[84,88,65] by rw[ByteArray.toList_eq];rfl] at hs;exact p.implied_TXA hk K O hs
 ·rw[show (opTx 18).toList=[84,65,88] by rw[ByteArray.toList_eq];rfl] at hs;exact p.implied_TAX hk K O hs
 ·rw[show (opTx 19).toList=[68,69,88] by rw[ByteArray.toList_eq];rfl] at hs;exact p.implied_DEX hk K O hs
 ·rw[show (opTx 20).toList=[78,79,80] by rw[ByteArray.toList_eq];rfl] at hs;exact p.implied_NOP hk K O hs
 ·rw[show (opTx 21).toList=[84,88,83] by rw[ByteArray.toList_eq];rfl] at hs;exact p.implied_TXS hk K O hs
 ·rw[show (opTx 22).toList=[84,83,88] by rw[ByteArray.toList_eq];rfl] at hs;exact p.implied_TSX hk K O hs
 ·rw[show (opTx 37).toList=[68,69,89] by rw[ByteArray.toList_eq];rfl] at hs;exact p.implied_DEY hk K O hs
 ·rw[show (opTx 38).toList=[84,65,89] by rw[ByteArray.toList_eq];rfl] at hs;exact p.implied_TAY hk K O hs
 ·rw[show (opTx 39).toList=[73,78,89] by rw[ByteArray.toList_eq];rfl] at hs;exact p.implied_INY hk K O hs
 ·rw[show (opTx 40).toList=[73,78,88] by rw[ByteArray.toList_eq];rfl] at hs;exact p.implied_INX hk K O hs
 ·rw[show (opTx 49).toList=[67,76,67] by rw[ByteArray.toList_eq];rfl] at hs;exact p.implied_CLC hk K O hs
 ·rw[show (opTx 50).toList=[83,69,67] by rw[ByteArray.toList_eq];rfl] at hs;exact p.implied_SEC hk K O hs
 ·rw[show (opTx 51).toList=[67,76,73] by rw[ByteArray.toList_eq];rfl] at hs;exact p.implied_CLI hk K O hs
 ·rw[show (opTx 52).toList=[83,69,73] by rw[ByteArray.toList_eq];rfl] at hs;exact p.implied_SEI hk K O hs
 ·rw[show (opTx 53).toList=[84,89,65] by rw[ByteArray.toList_eq];rfl] at hs;exact p.implied_TYA hk K O hs
 ·rw[show (opTx 54).toList=[67,76,86] by rw[ByteArray.toList_eq];rfl] at hs;exact p.implied_CLV hk K O hs
 ·rw[show (opTx 55).toList=[67,76,68] by rw[ByteArray.toList_eq];rfl] at hs;exact p.implied_CLD hk K O hs
 ·rw[show (opTx 56).toList=[83,69,68] by rw[ByteArray.toList_eq];rfl] at hs;exact p.implied_SED hk K O hs
theorem Play.acc_any {F:Nat->Prop} {w W:World} {P:Nat} {o:Option Nat} {k:OpK} {s:St} {N:Nat} (p:Play F w W P o k s N) (i:Nat) (hi:i ∈ [9,10,11,12]) (hk:k.nm=opTx i) (K:k.md=1) (O:N<=80) {s':St} (hs:(⟨impL s.c (opTx i).toList 1,s.b.rd s.c.PC⟩:St)=s') :
  Calls Tryz.prog 162 #[.pointer (some ⟨P,0,none⟩)] W fun e w'=>e=.returned (.tuple #[])/\Play F w w' P o k s' (N+1):=by
 have O:N<=88:=dQ;simp only[List.mem_cons,List.not_mem_nil,or_false] at hi;rcases hi with rfl|rfl|rfl|rfl
 ·rw[show (opTx 9).toList=[65,83,76] by rw[ByteArray.toList_eq];rfl] at hs;exact p.acc_ASL hk K O hs
 ·rw[show (opTx 10).toList=[82,79,76] by rw[ByteArray.toList_eq];rfl] at hs;exact p.acc_ROL hk K O hs
 ·rw[show (opTx 11).toList=[76,83,82] by rw[ByteArray.toList_eq];rfl] at hs;exact p.acc_LSR hk K O hs
 ·rw[show (opTx 12).toList=[82,79,82] by rw[ByteArray.toList_eq];rfl] at hs;exact p.acc_ROR hk K O hs
theorem Play.joined_LDA {F:Nat->Prop} {w W:World} {P:Nat} {o:Option Nat} {k:OpK} {s:St} {N:Nat} (p:Play F w W P o k s N) (hk:k.nm=⟨#[76,68,65]⟩) (m:Nat) (K:m < 256) :
  Calls Tryz.prog 196 #[.pointer (some ⟨P,0,none⟩),.int .u8 (m:Int)] W fun e w'=>e=.returned (.int .u8 ((m:Nat):Int))/\W=w':=by
 obtain⟨T,hX,hY,hS,U⟩:=p.pl.ok;obtain⟨g0,g1,g2,g3,g4,g5,g6,g7,g8,g9,g10,r,j,B,E,H⟩:=p.cells;rw[hk] at j;go_enter Tryz.func196,Tryz.ntmps196;go_wp2;go_ret;refine⟨?_,rfl⟩;first|rfl|exact congrArg (fun v=>Ending.returned (Value.int .u8 v)) rQ
theorem Play.joined_ORA {F:Nat->Prop} {w W:World} {P:Nat} {o:Option Nat} {k:OpK} {s:St} {N:Nat} (p:Play F w W P o k s N) (hk:k.nm=⟨#[79,82,65]⟩) (m:Nat) (K:m < 256) {x:Nat} (hx:bits .or .u8 s.c.A m=(x:Int)) :
  Calls Tryz.prog 196 #[.pointer (some ⟨P,0,none⟩),.int .u8 (m:Int)] W fun e w'=>e=.returned (.int .u8 ((x:Nat):Int))/\W=w':=by
 obtain⟨T,hX,hY,hS,U⟩:=p.pl.ok;obtain⟨g0,g1,g2,g3,g4,g5,g6,g7,g8,g9,g10,r,j,B,E,H⟩:=p.cells;rw[hk] at j;go_enter Tryz.func196,Tryz.ntmps196;go_wp2;go_ret;refine⟨?_,rfl⟩;first|rfl|exact congrArg (fun v=>Ending.returned (Value.int .u8 v)) rQ
theorem Play.joined_AND {F:Nat->Prop} {w W:World} {P:Nat} {o:Option Nat} {k:OpK} {s:St} {N:Nat} (p:Play F w W P o k s N) (hk:k.nm=⟨#[65,78,68]⟩) (m:Nat) (K:m < 256) {x:Nat} (hx:bits .and .u8 s.c.A m=(x:Int)) :
  Calls Tryz.prog 196 #[.pointer (some ⟨P,0,none⟩),.int .u8 (m:Int)] W fun e w'=>e=.returned (.int .u8 ((x:Nat):Int))/\W=w':=by
 obtain⟨T,hX,hY,hS,U⟩:=p.pl.ok;obtain⟨g0,g1,g2,g3,g4,g5,g6,g7,g8,g9,g10,r,j,B,E,H⟩:=p.cells;rw[hk] at j;go_enter Tryz.func196,Tryz.ntmps196;go_wp2;go_ret;refine⟨?_,rfl⟩;first|rfl|exact congrArg (fun v=>Ending.returned (Value.int .u8 v)) rQ
theorem Play.joined_EOR {F:Nat->Prop} {w W:World} {P:Nat} {o:Option Nat} {k:OpK} {s:St} {N:Nat} (p:Play F w W P o k s N) (hk:k.nm=⟨#[69,79,82]⟩) (m:Nat) (K:m < 256) {x:Nat} (hx:bits .xor .u8 s.c.A m=(x:Int)) :
  Calls Tryz.prog 196 #[.pointer (some ⟨P,0,none⟩),.int .u8 (m:Int)] W fun e w'=>e=.returned (.int .u8 ((x:Nat):Int))/\W=w':=by
 obtain⟨T,hX,hY,hS,U⟩:=p.pl.ok;obtain⟨g0,g1,g2,g3,g4,g5,g6,g7,g8,g9,g10,r,j,B,E,H⟩:=p.cells;rw[hk] at j;go_enter Tryz.func196,Tryz.ntmps196;go_wp2;go_ret;refine⟨?_,rfl⟩;first|rfl|exact congrArg (fun v=>Ending.returned (Value.int .u8 v)) rQ
theorem Play.use_LDX {F:Nat->Prop} {w W:World} {P:Nat} {o:Option Nat} {k:OpK} {s:St} {N:Nat} (p:Play F w W P o k s N) (hk:k.nm=⟨#[76,68,88]⟩) (m:Nat) (K:m < 256) (O:N<=90) {s':St} (hs:⟨useL s.c [76,68,88] m,s.b⟩=s') :
  Calls Tryz.prog 178 #[.pointer (some ⟨P,0,none⟩),.int .u8 (m:Int)] W fun e w'=>e=.returned (.tuple #[])/\Play F w w' P o k s' (N+0):=by
 obtain⟨T,hX,hY,hS,U⟩:=p.pl.ok;go_enter Tryz.func178,Tryz.ntmps178;obtain⟨g0,g1,g2,g3,g4,g5,g6,g7,g8,g9,g10,r,j,B,E,H⟩:=p.cells;rw[hk] at j;go_wp2_with fail;have J:=p.setX _ (m) rfl dQ rfl;clear g0 g1 g2 g3 g4 g5 g6 g7 g8 g9 g10 r j B E H;generalize W.setCell ⟨P,1,none⟩ (.int .u8 ((m:Nat):Int))=W2 at J ⊢;obtain⟨g0,g1,g2,g3,g4,g5,g6,g7,g8,g9,g10,r,j,B,E,H⟩:=J.cells;rw[hk] at j;go_wp2_with fail;clear g0 g1 g2 g3 g4 g5 g6 g7 g8 g9 g10 r j B E H;go_wp2_with fail;have p3:=J.drew;have g1:=p3.cells.2.1;have g5:=p3.cells.2.2.2.2.2.1;have g6:=p3.cells.2.2.2.2.2.2.1;have g7:=p3.cells.2.2.2.2.2.2.2.1;have g8:=p3.cells.2.2.2.2.2.2.2.2.1;have g9:=p3.cells.2.2.2.2.2.2.2.2.2.1;have g10:=p3.cells.2.2.2.2.2.2.2.2.2.2.1;have H:=p3.cells.2.2.2.2.2.2.2.2.2.2.2.2.2.2.2;go_region_with (go_at_call 176;refine (iBA _ _ _ _ _ _ _ _ dQ dQ).mono ?_;rintro e w4 ⟨rfl,d5⟩;(have R:=p3.below d5);clear g1 g5 g6 g7 g8 g9 g10 H;(have g1:=R.cells.2.1);(have g5:=R.cells.2.2.2.2.2.1);(have g6:=R.cells.2.2.2.2.2.2.1);(have g7:=R.cells.2.2.2.2.2.2.2.1);(have g8:=R.cells.2.2.2.2.2.2.2.2.1);(have g9:=R.cells.2.2.2.2.2.2.2.2.2.1);(have g10:=R.cells.2.2.2.2.2.2.2.2.2.2.1);(have H:=R.cells.2.2.2.2.2.2.2.2.2.2.2.2.2.2.2));all_goals
  go_wp2
  (try simp only[Exit.inBlock,Exit.then])
  first|refine bodyPost_ret (results_none rfl _ _ _) rfl ?_|refine bodyPost_end (results_none rfl _ _ _) rfl ?_
  refine⟨rfl,?_⟩;exact R.flags _ _ _ _ _ _ (by rw[<-hs];simp[useL,CpuN.nz])
theorem Play.use_LDY {F:Nat->Prop} {w W:World} {P:Nat} {o:Option Nat} {k:OpK} {s:St} {N:Nat} (p:Play F w W P o k s N) (hk:k.nm=⟨#[76,68,89]⟩) (m:Nat) (K:m < 256) (O:N<=90) {s':St} (hs:⟨useL s.c [76,68,89] m,s.b⟩=s') :
  Calls Tryz.prog 178 #[.pointer (some ⟨P,0,none⟩),.int .u8 (m:Int)] W fun e w'=>e=.returned (.tuple #[])/\Play F w w' P o k s' (N+0):=by
 obtain⟨T,hX,hY,hS,U⟩:=p.pl.ok;go_enter Tryz.func178,Tryz.ntmps178;obtain⟨g0,g1,g2,g3,g4,g5,g6,g7,g8,g9,g10,r,j,B,E,H⟩:=p.cells;rw[hk] at j;go_wp2_with fail;have J:=p.setY _ (m) rfl dQ rfl;clear g0 g1 g2 g3 g4 g5 g6 g7 g8 g9 g10 r j B E H;generalize W.setCell ⟨P,2,none⟩ (.int .u8 ((m:Nat):Int))=W2 at J ⊢;obtain⟨g0,g1,g2,g3,g4,g5,g6,g7,g8,g9,g10,r,j,B,E,H⟩:=J.cells;rw[hk] at j;go_wp2_with fail;clear g0 g1 g2 g3 g4 g5 g6 g7 g8 g9 g10 r j B E H;go_wp2_with fail;have p3:=J.drew;have g2:=p3.cells.2.2.1;have g5:=p3.cells.2.2.2.2.2.1;have g6:=p3.cells.2.2.2.2.2.2.1;have g7:=p3.cells.2.2.2.2.2.2.2.1;have g8:=p3.cells.2.2.2.2.2.2.2.2.1;have g9:=p3.cells.2.2.2.2.2.2.2.2.2.1;have g10:=p3.cells.2.2.2.2.2.2.2.2.2.2.1;have H:=p3.cells.2.2.2.2.2.2.2.2.2.2.2.2.2.2.2;go_region_with (go_at_call 176;refine (iBA _ _ _ _ _ _ _ _ dQ dQ).mono ?_;rintro e w4 ⟨rfl,d5⟩;(have R:=p3.below d5);clear g2 g5 g6 g7 g8 g9 g10 H;(have g2:=R.cells.2.2.1);(have g5:=R.cells.2.2.2.2.2.1);(have g6:=R.cells.2.2.2.2.2.2.1);(have g7:=R.cells.2.2.2.2.2.2.2.1);(have g8:=R.cells.2.2.2.2.2.2.2.2.1);(have g9:=R.cells.2.2.2.2.2.2.2.2.2.1);(have g10:=R.cells.2.2.2.2.2.2.2.2.2.2.1);(have H:=R.cells.2.2.2.2.2.2.2.2.2.2.2.2.2.2.2));all_goals
  go_wp2
  (try simp only[Exit.inBlock,Exit.then])
  first|refine bodyPost_ret (results_none rfl _ _ _) rfl ?_|refine bodyPost_end (results_none rfl _ _ _) rfl ?_
  refine⟨rfl,?_⟩;exact R.flags _ _ _ _ _ _ (by rw[<-hs];simp[useL,CpuN.nz])
theorem Play.use_LDA {F:Nat->Prop} {w W:World} {P:Nat} {o:Option Nat} {k:OpK} {s:St} {N:Nat} (p:Play F w W P o k s N) (hk:k.nm=⟨#[76,68,65]⟩) (m:Nat) (K:m < 256) (O:N<=90) {s':St} (hs:⟨useL s.c [76,68,65] m,s.b⟩=s') :
  Calls Tryz.prog 178 #[.pointer (some ⟨P,0,none⟩),.int .u8 (m:Int)] W fun e w'=>e=.returned (.tuple #[])/\Play F w w' P o k s' (N+0):=by
 obtain⟨T,hX,hY,hS,U⟩:=p.pl.ok;go_enter Tryz.func178,Tryz.ntmps178;obtain⟨g0,g1,g2,g3,g4,g5,g6,g7,g8,g9,g10,r,j,B,E,H⟩:=p.cells;rw[hk] at j;go_wp2_with fail;refine (p.joined_LDA hk m K).mono ?_;rintro e w1 ⟨rfl,rfl⟩;go_wp2_with fail;have p2:=p.setA _ (m) rfl dQ rfl;clear g0 g1 g2 g3 g4 g5 g6 g7 g8 g9 g10 r j B E H;generalize W.setCell ⟨P,0,none⟩ (.int .u8 ((m:Nat):Int))=W3 at p2 ⊢;obtain⟨g0,g1,g2,g3,g4,g5,g6,g7,g8,g9,g10,r,j,B,E,H⟩:=p2.cells;rw[hk] at j;go_wp2_with fail;clear g0 g1 g2 g3 g4 g5 g6 g7 g8 g9 g10 r j B E H;go_wp2_with fail;have l:=p2.drew;have g0:=l.cells.1;have g5:=l.cells.2.2.2.2.2.1;have g6:=l.cells.2.2.2.2.2.2.1;have g7:=l.cells.2.2.2.2.2.2.2.1;have g8:=l.cells.2.2.2.2.2.2.2.2.1;have g9:=l.cells.2.2.2.2.2.2.2.2.2.1;have g10:=l.cells.2.2.2.2.2.2.2.2.2.2.1;have H:=l.cells.2.2.2.2.2.2.2.2.2.2.2.2.2.2.2;go_region_with (go_at_call 176;refine (iBA _ _ _ _ _ _ _ _ dQ dQ).mono ?_;rintro e w5 ⟨rfl,d6⟩;(have Q:=l.below d6);clear g0 g5 g6 g7 g8 g9 g10 H;(have g0:=Q.cells.1);(have g5:=Q.cells.2.2.2.2.2.1);(have g6:=Q.cells.2.2.2.2.2.2.1);(have g7:=Q.cells.2.2.2.2.2.2.2.1);(have g8:=Q.cells.2.2.2.2.2.2.2.2.1);(have g9:=Q.cells.2.2.2.2.2.2.2.2.2.1);(have g10:=Q.cells.2.2.2.2.2.2.2.2.2.2.1);(have H:=Q.cells.2.2.2.2.2.2.2.2.2.2.2.2.2.2.2));all_goals
  go_wp2
  (try simp only[Exit.inBlock,Exit.then])
  first|refine bodyPost_ret (results_none rfl _ _ _) rfl ?_|refine bodyPost_end (results_none rfl _ _ _) rfl ?_
  refine⟨rfl,?_⟩;exact Q.flags _ _ _ _ _ _ (by rw[<-hs];simp[useL,CpuN.nz])
theorem Play.use_ORA {F:Nat->Prop} {w W:World} {P:Nat} {o:Option Nat} {k:OpK} {s:St} {N:Nat} (p:Play F w W P o k s N) (hk:k.nm=⟨#[79,82,65]⟩) (m:Nat) (K:m < 256) (O:N<=90) {s':St} (hs:⟨useL s.c [79,82,65] m,s.b⟩=s') :
  Calls Tryz.prog 178 #[.pointer (some ⟨P,0,none⟩),.int .u8 (m:Int)] W fun e w'=>e=.returned (.tuple #[])/\Play F w w' P o k s' (N+0):=by
 obtain⟨T,hX,hY,hS,U⟩:=p.pl.ok;obtain⟨x,hx⟩:=dDA (rBA .or (s.c.A:Int) (m:Int)).1;have a4:x < 256:=by have:=(rBA .or (s.c.A:Int) (m:Int)).2;omega
 have Hx:=j_ hx;clear hx;go_enter Tryz.func178,Tryz.ntmps178;obtain⟨g0,g1,g2,g3,g4,g5,g6,g7,g8,g9,g10,r,j,B,E,H⟩:=p.cells;rw[hk] at j;go_wp2_with fail;refine (p.joined_ORA hk m K Hx.out).mono ?_;rintro e w1 ⟨rfl,rfl⟩;go_wp2_with fail;have p2:=p.setA _ (x) rfl dQ rfl;clear g0 g1 g2 g3 g4 g5 g6 g7 g8 g9 g10 r j B E H;generalize W.setCell ⟨P,0,none⟩ (.int .u8 ((x:Nat):Int))=W3 at p2 ⊢;obtain⟨g0,g1,g2,g3,g4,g5,g6,g7,g8,g9,g10,r,j,B,E,H⟩:=p2.cells;rw[hk] at j;go_wp2_with fail;clear g0 g1 g2 g3 g4 g5 g6 g7 g8 g9 g10 r j B E H;go_wp2_with fail;have l:=p2.drew;have g0:=l.cells.1;have g5:=l.cells.2.2.2.2.2.1;have g6:=l.cells.2.2.2.2.2.2.1;have g7:=l.cells.2.2.2.2.2.2.2.1;have g8:=l.cells.2.2.2.2.2.2.2.2.1;have g9:=l.cells.2.2.2.2.2.2.2.2.2.1;have g10:=l.cells.2.2.2.2.2.2.2.2.2.2.1;have H:=l.cells.2.2.2.2.2.2.2.2.2.2.2.2.2.2.2;go_region_with (go_at_call 176;refine (iBA _ _ _ _ _ _ _ _ dQ dQ).mono ?_;rintro e w5 ⟨rfl,d6⟩;(have Q:=l.below d6);clear g0 g5 g6 g7 g8 g9 g10 H;(have g0:=Q.cells.1);(have g5:=Q.cells.2.2.2.2.2.1);(have g6:=Q.cells.2.2.2.2.2.2.1);(have g7:=Q.cells.2.2.2.2.2.2.2.1);(have g8:=Q.cells.2.2.2.2.2.2.2.2.1);(have g9:=Q.cells.2.2.2.2.2.2.2.2.2.1);(have g10:=Q.cells.2.2.2.2.2.2.2.2.2.2.1);(have H:=Q.cells.2.2.2.2.2.2.2.2.2.2.2.2.2.2.2));all_goals
  go_wp2
  (try simp only[Exit.inBlock,Exit.then])
  first|refine bodyPost_ret (results_none rfl _ _ _) rfl ?_|refine bodyPost_end (results_none rfl _ _ _) rfl ?_
  refine⟨rfl,?_⟩;exact Q.flags _ _ _ _ _ _ kQi
theorem Play.use_AND {F:Nat->Prop} {w W:World} {P:Nat} {o:Option Nat} {k:OpK} {s:St} {N:Nat} (p:Play F w W P o k s N) (hk:k.nm=⟨#[65,78,68]⟩) (m:Nat) (K:m < 256) (O:N<=90) {s':St} (hs:⟨useL s.c [65,78,68] m,s.b⟩=s') :
  Calls Tryz.prog 178 #[.pointer (some ⟨P,0,none⟩),.int .u8 (m:Int)] W fun e w'=>e=.returned (.tuple #[])/\Play F w w' P o k s' (N+0):=by
 obtain⟨T,hX,hY,hS,U⟩:=p.pl.ok;obtain⟨x,hx⟩:=dDA (rBA .and (s.c.A:Int) (m:Int)).1;have a4:x < 256:=by have:=(rBA .and (s.c.A:Int) (m:Int)).2;omega
 have Hx:=j_ hx;clear hx;go_enter Tryz.func178,Tryz.ntmps178;obtain⟨g0,g1,g2,g3,g4,g5,g6,g7,g8,g9,g10,r,j,B,E,H⟩:=p.cells;rw[hk] at j;go_wp2_with fail;refine (p.joined_AND hk m K Hx.out).mono ?_;rintro e w1 ⟨rfl,rfl⟩;go_wp2_with fail;have p2:=p.setA _ (x) rfl dQ rfl;clear g0 g1 g2 g3 g4 g5 g6 g7 g8 g9 g10 r j B E H;generalize W.setCell ⟨P,0,none⟩ (.int .u8 ((x:Nat):Int))=W3 at p2 ⊢;obtain⟨g0,g1,g2,g3,g4,g5,g6,g7,g8,g9,g10,r,j,B,E,H⟩:=p2.cells;rw[hk] at j;go_wp2_with fail;clear g0 g1 g2 g3 g4 g5 g6 g7 g8 g9 g10 r j B E H;go_wp2_with fail;have l:=p2.drew;have g0:=l.cells.1;have g5:=l.cells.2.2.2.2.2.1;have g6:=l.cells.2.2.2.2.2.2.1;have g7:=l.cells.2.2.2.2.2.2.2.1;have g8:=l.cells.2.2.2.2.2.2.2.2.1;have g9:=l.cells.2.2.2.2.2.2.2.2.2.1;have g10:=l.cells.2.2.2.2.2.2.2.2.2.2.1;have H:=l.cells.2.2.2.2.2.2.2.2.2.2.2.2.2.2.2;go_region_with (go_at_call 176;refine (iBA _ _ _ _ _ _ _ _ dQ dQ).mono ?_;rintro e w5 ⟨rfl,d6⟩;(have Q:=l.below d6);clear g0 g5 g6 g7 g8 g9 g10 H;(have g0:=Q.cells.1);(have g5:=Q.cells.2.2.2.2.2.1);(have g6:=Q.cells.2.2.2.2.2.2.1);(have g7:=Q.cells.2.2.2.2.2.2.2.1);(have g8:=Q.cells.2.2.2.2.2.2.2.2.1);(have g9:=Q.cells.2.2.2.2.2.2.2.2.2.1);(have g10:=Q.cells.2.2.2.2.2.2.2.2.2.2.1);(have H:=Q.cells.2.2.2.2.2.2.2.2.2.2.2.2.2.2.2));all_goals
  go_wp2
  (try simp only[Exit.inBlock,Exit.then])
  first|refine bodyPost_ret (results_none rfl _ _ _) rfl ?_|refine bodyPost_end (results_none rfl _ _ _) rfl ?_
  refine⟨rfl,?_⟩;exact Q.flags _ _ _ _ _ _ kQi
theorem Play.use_EOR {F:Nat->Prop} {w W:World} {P:Nat} {o:Option Nat} {k:OpK} {s:St} {N:Nat} (p:Play F w W P o k s N) (hk:k.nm=⟨#[69,79,82]⟩) (m:Nat) (K:m < 256) (O:N<=90) {s':St} (hs:⟨useL s.c [69,79,82] m,s.b⟩=s') :
  Calls Tryz.prog 178 #[.pointer (some ⟨P,0,none⟩),.int .u8 (m:Int)] W fun e w'=>e=.returned (.tuple #[])/\Play F w w' P o k s' (N+0):=by
 obtain⟨T,hX,hY,hS,U⟩:=p.pl.ok;obtain⟨x,hx⟩:=dDA (rBA .xor (s.c.A:Int) (m:Int)).1;have a4:x < 256:=by have:=(rBA .xor (s.c.A:Int) (m:Int)).2;omega
 have Hx:=j_ hx;clear hx;go_enter Tryz.func178,Tryz.ntmps178;obtain⟨g0,g1,g2,g3,g4,g5,g6,g7,g8,g9,g10,r,j,B,E,H⟩:=p.cells;rw[hk] at j;go_wp2_with fail;refine (p.joined_EOR hk m K Hx.out).mono ?_;rintro e w1 ⟨rfl,rfl⟩;go_wp2_with fail;have p2:=p.setA _ (x) rfl dQ rfl;clear g0 g1 g2 g3 g4 g5 g6 g7 g8 g9 g10 r j B E H;generalize W.setCell ⟨P,0,none⟩ (.int .u8 ((x:Nat):Int))=W3 at p2 ⊢;obtain⟨g0,g1,g2,g3,g4,g5,g6,g7,g8,g9,g10,r,j,B,E,H⟩:=p2.cells;rw[hk] at j;go_wp2_with fail;clear g0 g1 g2 g3 g4 g5 g6 g7 g8 g9 g10 r j B E H;go_wp2_with fail;have l:=p2.drew;have g0:=l.cells.1;have g5:=l.cells.2.2.2.2.2.1;have g6:=l.cells.2.2.2.2.2.2.1;have g7:=l.cells.2.2.2.2.2.2.2.1;have g8:=l.cells.2.2.2.2.2.2.2.2.1;have g9:=l.cells.2.2.2.2.2.2.2.2.2.1;have g10:=l.cells.2.2.2.2.2.2.2.2.2.2.1;have H:=l.cells.2.2.2.2.2.2.2.2.2.2.2.2.2.2.2;go_region_with (go_at_call 176;refine (iBA _ _ _ _ _ _ _ _ dQ dQ).mono ?_;rintro e w5 ⟨rfl,d6⟩;(have Q:=l.below d6);clear g0 g5 g6 g7 g8 g9 g10 H;(have g0:=Q.cells.1);(have g5:=Q.cells.2.2.2.2.2.1);(have g6:=Q.cells.2.2.2.2.2.2.1);(have g7:=Q.cells.2.2.2.2.2.2.2.1);(have g8:=Q.cells.2.2.2.2.2.2.2.2.1);(have g9:=Q.cells.2.2.2.2.2.2.2.2.2.1);(have g10:=Q.cells.2.2.2.2.2.2.2.2.2.2.1);(have H:=Q.cells.2.2.2.2.2.2.2.2.2.2.2.2.2.2.2));all_goals
  go_wp2
  (try simp only[Exit.inBlock,Exit.then])
  first|refine bodyPost_ret (results_none rfl _ _ _) rfl ?_|refine bodyPost_end (results_none rfl _ _ _) rfl ?_
  refine⟨rfl,?_⟩;exact Q.flags _ _ _ _ _ _ kQi
theorem yEB (a b:Nat) (n v d i z c:Bool) (w:World) (h1:a < 256) (h3:b < 256) {x:Nat} {n' v' z' c':Bool} (hx:adR a b d c=(x:Int)) (hn:adN a b d c=n') (hv:adV a b d c=v') (hz:adZ a b c=z') (hc:adC a b d c=c') :
  Calls Tryz.prog 192 #[.int .u8 (a:Int),.int .u8 (b:Int),.agg #[.bool n,.bool v,.bool d,.bool i,.bool z,.bool c]] w fun e w'=>e=.returned (.tuple #[.int .u8 (x:Int),.agg #[.bool n',.bool v',.bool d,.bool i,.bool z',.bool c']])/\Below w.heap.size w w':=by
 subst hn hv hz hc;rw[<-hx];exact pQA _ _ _ _ _ _ _ _ _ dQ dQ dQ dQ
theorem mGB (a b:Nat) (n v d i z c:Bool) (w:World) (h1:a < 256) (h3:b < 256) {x:Nat} {n' v' z' c':Bool} (hx:sbR a b d c=(x:Int)) (hn:bit7 (plR a (255 - b) c)=n') (hv:plV a (255 - b) c=v') (hz:isZ (plR a (255 - b) c)=z') (hc:plC a (255 - b) c=c') :
  Calls Tryz.prog 193 #[.int .u8 (a:Int),.int .u8 (b:Int),.agg #[.bool n,.bool v,.bool d,.bool i,.bool z,.bool c]] w fun e w'=>e=.returned (.tuple #[.int .u8 (x:Int),.agg #[.bool n',.bool v',.bool d,.bool i,.bool z',.bool c']])/\Below w.heap.size w w':=by
 subst hn hv hz hc;rw[<-hx];exact kRA _ _ _ _ _ _ _ _ _ dQ dQ dQ dQ
theorem Play.use_ADC {F:Nat->Prop} {w W:World} {P:Nat} {o:Option Nat} {k:OpK} {s:St} {N:Nat} (p:Play F w W P o k s N) (hk:k.nm=⟨#[65,68,67]⟩) (m:Nat) (K:m < 256) (O:N<=90) {s':St} (hs:⟨useL s.c [65,68,67] m,s.b⟩=s') :
  Calls Tryz.prog 178 #[.pointer (some ⟨P,0,none⟩),.int .u8 (m:Int)] W fun e w'=>e=.returned (.tuple #[])/\Play F w w' P o k s' (N+0):=by
 obtain⟨T,hX,hY,hS,U⟩:=p.pl.ok;obtain⟨x,hx⟩:=dDA (zIA (s.c.A:Int) (m:Int) s.c.D s.c.C).1;have a4:x < 256:=by have:=(zIA (s.c.A:Int) (m:Int) s.c.D s.c.C).2;omega
 obtain⟨n1,a1⟩:∃ r_,adN s.c.A m s.c.D s.c.C=r_:=⟨_,rfl⟩;obtain⟨v1,a2⟩:∃ r_,adV s.c.A m s.c.D s.c.C=r_:=⟨_,rfl⟩;obtain⟨y1,a3⟩:∃ r_,adZ s.c.A m s.c.C=r_:=⟨_,rfl⟩;obtain⟨c1,a0⟩:∃ r_,adC s.c.A m s.c.D s.c.C=r_:=⟨_,rfl⟩;have a5:(⟨{ s.c with A:=x,N:=n1,V:=v1,D:=s.c.D,I:=s.c.I,Z:=y1,C:=c1 },s.b⟩:St)=s':=by rw[<-hs];simp[useL,hx,a1,a2,a3,a0]
 have HS:=j_ a5;clear hs a5;have Hx:=j_ hx;have a7:=j_ a1;have a8:=j_ a2;have a9:=j_ a3;have a6:=j_ a0;clear hx a1 a2 a3 a0;go_enter Tryz.func178,Tryz.ntmps178;obtain⟨g0,g1,g2,g3,g4,g5,g6,g7,g8,g9,g10,r,j,B,E,H⟩:=p.cells;rw[hk] at j;go_wp2_with fail;clear g0 g1 g2 g3 g4 g5 g6 g7 g8 g9 g10 r j B E H;go_wp2_with fail;have J:=p.drew;have g0:=J.cells.1;have g5:=J.cells.2.2.2.2.2.1;have g6:=J.cells.2.2.2.2.2.2.1;have g7:=J.cells.2.2.2.2.2.2.2.1;have g8:=J.cells.2.2.2.2.2.2.2.2.1;have g9:=J.cells.2.2.2.2.2.2.2.2.2.1;have g10:=J.cells.2.2.2.2.2.2.2.2.2.2.1;have H:=J.cells.2.2.2.2.2.2.2.2.2.2.2.2.2.2.2;go_region_with (go_at_call 192;refine (yEB _ _ _ _ _ _ _ _ _ T K Hx.out a7.out a8.out a9.out a6.out).mono ?_;rintro e w2 ⟨rfl,d3⟩;(have l:=J.below d3);clear g0 g5 g6 g7 g8 g9 g10 H;(have g0:=l.cells.1);(have g5:=l.cells.2.2.2.2.2.1);(have g6:=l.cells.2.2.2.2.2.2.1);(have g7:=l.cells.2.2.2.2.2.2.2.1);(have g8:=l.cells.2.2.2.2.2.2.2.2.1);(have g9:=l.cells.2.2.2.2.2.2.2.2.2.1);(have g10:=l.cells.2.2.2.2.2.2.2.2.2.2.1);(have H:=l.cells.2.2.2.2.2.2.2.2.2.2.2.2.2.2.2));all_goals
  go_wp2
  (try simp only[Exit.inBlock,Exit.then])
  first|refine bodyPost_ret (results_none rfl _ _ _) rfl ?_|refine bodyPost_end (results_none rfl _ _ _) rfl ?_
  refine⟨rfl,?_⟩;exact ((l.setA _ x rfl a4 rfl).flags _ _ _ _ _ _ HS.out)
theorem Play.use_SBC {F:Nat->Prop} {w W:World} {P:Nat} {o:Option Nat} {k:OpK} {s:St} {N:Nat} (p:Play F w W P o k s N) (hk:k.nm=⟨#[83,66,67]⟩) (m:Nat) (K:m < 256) (O:N<=90) {s':St} (hs:⟨useL s.c [83,66,67] m,s.b⟩=s') :
  Calls Tryz.prog 178 #[.pointer (some ⟨P,0,none⟩),.int .u8 (m:Int)] W fun e w'=>e=.returned (.tuple #[])/\Play F w w' P o k s' (N+0):=by
 obtain⟨T,hX,hY,hS,U⟩:=p.pl.ok;obtain⟨x,hx⟩:=dDA (qJA (s.c.A:Int) (m:Int) s.c.D s.c.C).1;have a4:x < 256:=by have:=(qJA (s.c.A:Int) (m:Int) s.c.D s.c.C).2;omega
 obtain⟨n1,a1⟩:∃ r_,bit7 (plR s.c.A (255 - m) s.c.C)=r_:=⟨_,rfl⟩;obtain⟨v1,a2⟩:∃ r_,plV s.c.A (255 - m) s.c.C=r_:=⟨_,rfl⟩;obtain⟨y1,a3⟩:∃ r_,isZ (plR s.c.A (255 - m) s.c.C)=r_:=⟨_,rfl⟩;obtain⟨c1,a0⟩:∃ r_,plC s.c.A (255 - m) s.c.C=r_:=⟨_,rfl⟩;have a5:(⟨{ s.c with A:=x,N:=n1,V:=v1,D:=s.c.D,I:=s.c.I,Z:=y1,C:=c1 },s.b⟩:St)=s':=by rw[<-hs];simp[useL,hx,a1,a2,a3,a0]
 have HS:=j_ a5;clear hs a5;have Hx:=j_ hx;have a7:=j_ a1;have a8:=j_ a2;have a9:=j_ a3;have a6:=j_ a0;clear hx a1 a2 a3 a0;go_enter Tryz.func178,Tryz.ntmps178;obtain⟨g0,g1,g2,g3,g4,g5,g6,g7,g8,g9,g10,r,j,B,E,H⟩:=p.cells;rw[hk] at j;go_wp2_with fail;clear g0 g1 g2 g3 g4 g5 g6 g7 g8 g9 g10 r j B E H;go_wp2_with fail;have J:=p.drew;have g0:=J.cells.1;have g5:=J.cells.2.2.2.2.2.1;have g6:=J.cells.2.2.2.2.2.2.1;have g7:=J.cells.2.2.2.2.2.2.2.1;have g8:=J.cells.2.2.2.2.2.2.2.2.1;have g9:=J.cells.2.2.2.2.2.2.2.2.2.1;have g10:=J.cells.2.2.2.2.2.2.2.2.2.2.1;have H:=J.cells.2.2.2.2.2.2.2.2.2.2.2.2.2.2.2;go_region_with (go_at_call 193;refine (mGB _ _ _ _ _ _ _ _ _ T K Hx.out a7.out a8.out a9.out a6.out).mono ?_;rintro e w2 ⟨rfl,d3⟩;(have l:=J.below d3);clear g0 g5 g6 g7 g8 g9 g10 H;(have g0:=l.cells.1);(have g5:=l.cells.2.2.2.2.2.1);(have g6:=l.cells.2.2.2.2.2.2.1);(have g7:=l.cells.2.2.2.2.2.2.2.1);(have g8:=l.cells.2.2.2.2.2.2.2.2.1);(have g9:=l.cells.2.2.2.2.2.2.2.2.2.1);(have g10:=l.cells.2.2.2.2.2.2.2.2.2.2.1);(have H:=l.cells.2.2.2.2.2.2.2.2.2.2.2.2.2.2.2));all_goals
  go_wp2
  (try simp only[Exit.inBlock,Exit.then])
  first|refine bodyPost_ret (results_none rfl _ _ _) rfl ?_|refine bodyPost_end (results_none rfl _ _ _) rfl ?_
  refine⟨rfl,?_⟩;exact ((l.setA _ x rfl a4 rfl).flags _ _ _ _ _ _ HS.out)
theorem Play.use_CMP {F:Nat->Prop} {w W:World} {P:Nat} {o:Option Nat} {k:OpK} {s:St} {N:Nat} (p:Play F w W P o k s N) (hk:k.nm=⟨#[67,77,80]⟩) (m:Nat) (K:m < 256) (O:N<=90) {s':St} (hs:⟨useL s.c [67,77,80] m,s.b⟩=s') :
  Calls Tryz.prog 178 #[.pointer (some ⟨P,0,none⟩),.int .u8 (m:Int)] W fun e w'=>e=.returned (.tuple #[])/\Play F w w' P o k s' (N+0):=by
 obtain⟨T,hX,hY,hS,U⟩:=p.pl.ok;go_enter Tryz.func178,Tryz.ntmps178;obtain⟨g0,g1,g2,g3,g4,g5,g6,g7,g8,g9,g10,r,j,B,E,H⟩:=p.cells;rw[hk] at j;go_wp2_with fail;clear g0 g1 g2 g3 g4 g5 g6 g7 g8 g9 g10 r j B E H;go_wp2_with fail;have J:=p.drew;have g0:=J.cells.1;have g5:=J.cells.2.2.2.2.2.1;have g6:=J.cells.2.2.2.2.2.2.1;have g7:=J.cells.2.2.2.2.2.2.2.1;have g8:=J.cells.2.2.2.2.2.2.2.2.1;have g9:=J.cells.2.2.2.2.2.2.2.2.2.1;have g10:=J.cells.2.2.2.2.2.2.2.2.2.2.1;have H:=J.cells.2.2.2.2.2.2.2.2.2.2.2.2.2.2.2;go_region_with (go_at_call 194;refine (rHA _ _ _ _ _ _ _ _ dQ dQ dQ dQ _).mono ?_;rintro e w2 ⟨rfl,d3⟩;(have l:=J.below d3);clear g0 g5 g6 g7 g8 g9 g10 H;(have g0:=l.cells.1);(have g5:=l.cells.2.2.2.2.2.1);(have g6:=l.cells.2.2.2.2.2.2.1);(have g7:=l.cells.2.2.2.2.2.2.2.1);(have g8:=l.cells.2.2.2.2.2.2.2.2.1);(have g9:=l.cells.2.2.2.2.2.2.2.2.2.1);(have g10:=l.cells.2.2.2.2.2.2.2.2.2.2.1);(have H:=l.cells.2.2.2.2.2.2.2.2.2.2.2.2.2.2.2));all_goals
  go_wp2
  (try simp only[Exit.inBlock,Exit.then])
  first|refine bodyPost_ret (results_none rfl _ _ _) rfl ?_|refine bodyPost_end (results_none rfl _ _ _) rfl ?_
  refine⟨rfl,?_⟩;exact l.flags _ _ _ _ _ _ (by rw[<-hs];simp[useL])
theorem Play.use_CPX {F:Nat->Prop} {w W:World} {P:Nat} {o:Option Nat} {k:OpK} {s:St} {N:Nat} (p:Play F w W P o k s N) (hk:k.nm=⟨#[67,80,88]⟩) (m:Nat) (K:m < 256) (O:N<=90) {s':St} (hs:⟨useL s.c [67,80,88] m,s.b⟩=s') :
  Calls Tryz.prog 178 #[.pointer (some ⟨P,0,none⟩),.int .u8 (m:Int)] W fun e w'=>e=.returned (.tuple #[])/\Play F w w' P o k s' (N+0):=by
 obtain⟨T,hX,hY,hS,U⟩:=p.pl.ok;go_enter Tryz.func178,Tryz.ntmps178;obtain⟨g0,g1,g2,g3,g4,g5,g6,g7,g8,g9,g10,r,j,B,E,H⟩:=p.cells;rw[hk] at j;go_wp2_with fail;clear g0 g1 g2 g3 g4 g5 g6 g7 g8 g9 g10 r j B E H;go_wp2_with fail;have J:=p.drew;have g1:=J.cells.2.1;have g5:=J.cells.2.2.2.2.2.1;have g6:=J.cells.2.2.2.2.2.2.1;have g7:=J.cells.2.2.2.2.2.2.2.1;have g8:=J.cells.2.2.2.2.2.2.2.2.1;have g9:=J.cells.2.2.2.2.2.2.2.2.2.1;have g10:=J.cells.2.2.2.2.2.2.2.2.2.2.1;have H:=J.cells.2.2.2.2.2.2.2.2.2.2.2.2.2.2.2;go_region_with (go_at_call 194;refine (rHA _ _ _ _ _ _ _ _ dQ dQ dQ dQ _).mono ?_;rintro e w2 ⟨rfl,d3⟩;(have l:=J.below d3);clear g1 g5 g6 g7 g8 g9 g10 H;(have g1:=l.cells.2.1);(have g5:=l.cells.2.2.2.2.2.1);(have g6:=l.cells.2.2.2.2.2.2.1);(have g7:=l.cells.2.2.2.2.2.2.2.1);(have g8:=l.cells.2.2.2.2.2.2.2.2.1);(have g9:=l.cells.2.2.2.2.2.2.2.2.2.1);(have g10:=l.cells.2.2.2.2.2.2.2.2.2.2.1);(have H:=l.cells.2.2.2.2.2.2.2.2.2.2.2.2.2.2.2));all_goals
  go_wp2
  (try simp only[Exit.inBlock,Exit.then])
  first|refine bodyPost_ret (results_none rfl _ _ _) rfl ?_|refine bodyPost_end (results_none rfl _ _ _) rfl ?_
  refine⟨rfl,?_⟩;exact l.flags _ _ _ _ _ _ (by rw[<-hs];simp[useL])
theorem Play.use_CPY {F:Nat->Prop} {w W:World} {P:Nat} {o:Option Nat} {k:OpK} {s:St} {N:Nat} (p:Play F w W P o k s N) (hk:k.nm=⟨#[67,80,89]⟩) (m:Nat) (K:m < 256) (O:N<=90) {s':St} (hs:⟨useL s.c [67,80,89] m,s.b⟩=s') :
  Calls Tryz.prog 178 #[.pointer (some ⟨P,0,none⟩),.int .u8 (m:Int)] W fun e w'=>e=.returned (.tuple #[])/\Play F w w' P o k s' (N+0):=by
 obtain⟨T,hX,hY,hS,U⟩:=p.pl.ok;go_enter Tryz.func178,Tryz.ntmps178;obtain⟨g0,g1,g2,g3,g4,g5,g6,g7,g8,g9,g10,r,j,B,E,H⟩:=p.cells;rw[hk] at j;go_wp2_with fail;clear g0 g1 g2 g3 g4 g5 g6 g7 g8 g9 g10 r j B E H;go_wp2_with fail;have J:=p.drew;have g2:=J.cells.2.2.1;have g5:=J.cells.2.2.2.2.2.1;have g6:=J.cells.2.2.2.2.2.2.1;have g7:=J.cells.2.2.2.2.2.2.2.1;have g8:=J.cells.2.2.2.2.2.2.2.2.1;have g9:=J.cells.2.2.2.2.2.2.2.2.2.1;have g10:=J.cells.2.2.2.2.2.2.2.2.2.2.1;have H:=J.cells.2.2.2.2.2.2.2.2.2.2.2.2.2.2.2;go_region_with (go_at_call 194;refine (rHA _ _ _ _ _ _ _ _ dQ dQ dQ dQ _).mono ?_;rintro e w2 ⟨rfl,d3⟩;(have l:=J.below d3);clear g2 g5 g6 g7 g8 g9 g10 H;(have g2:=l.cells.2.2.1);(have g5:=l.cells.2.2.2.2.2.1);(have g6:=l.cells.2.2.2.2.2.2.1);(have g7:=l.cells.2.2.2.2.2.2.2.1);(have g8:=l.cells.2.2.2.2.2.2.2.2.1);(have g9:=l.cells.2.2.2.2.2.2.2.2.2.1);(have g10:=l.cells.2.2.2.2.2.2.2.2.2.2.1);(have H:=l.cells.2.2.2.2.2.2.2.2.2.2.2.2.2.2.2));all_goals
  go_wp2
  (try simp only[Exit.inBlock,Exit.then])
  first|refine bodyPost_ret (results_none rfl _ _ _) rfl ?_|refine bodyPost_end (results_none rfl _ _ _) rfl ?_
  refine⟨rfl,?_⟩;exact l.flags _ _ _ _ _ _ (by rw[<-hs];simp[useL])
theorem Play.use_BIT {F:Nat->Prop} {w W:World} {P:Nat} {o:Option Nat} {k:OpK} {s:St} {N:Nat} (p:Play F w W P o k s N) (hk:k.nm=⟨#[66,73,84]⟩) (m:Nat) (K:m < 256) (O:N<=90) {s':St} (hs:⟨useL s.c [66,73,84] m,s.b⟩=s') :
  Calls Tryz.prog 178 #[.pointer (some ⟨P,0,none⟩),.int .u8 (m:Int)] W fun e w'=>e=.returned (.tuple #[])/\Play F w w' P o k s' (N+0):=by
 obtain⟨T,hX,hY,hS,U⟩:=p.pl.ok;go_enter Tryz.func178,Tryz.ntmps178;obtain⟨g0,g1,g2,g3,g4,g5,g6,g7,g8,g9,g10,r,j,B,E,H⟩:=p.cells;rw[hk] at j;go_wp2_with fail;clear g0 g1 g2 g3 g4 g5 g6 g7 g8 g9 g10 r j B E H;go_wp2_with fail;have J:=p.drew;have g0:=J.cells.1;have g5:=J.cells.2.2.2.2.2.1;have g6:=J.cells.2.2.2.2.2.2.1;have g7:=J.cells.2.2.2.2.2.2.2.1;have g8:=J.cells.2.2.2.2.2.2.2.2.1;have g9:=J.cells.2.2.2.2.2.2.2.2.2.1;have g10:=J.cells.2.2.2.2.2.2.2.2.2.2.1;have H:=J.cells.2.2.2.2.2.2.2.2.2.2.2.2.2.2.2;go_region_with (go_at_call 195;refine (zKA _ _ _ _ _ _ _ _ dQ dQ _).mono ?_;rintro e w2 ⟨rfl,d3⟩;(have l:=J.below d3);clear g0 g5 g6 g7 g8 g9 g10 H;(have g0:=l.cells.1);(have g5:=l.cells.2.2.2.2.2.1);(have g6:=l.cells.2.2.2.2.2.2.1);(have g7:=l.cells.2.2.2.2.2.2.2.1);(have g8:=l.cells.2.2.2.2.2.2.2.2.1);(have g9:=l.cells.2.2.2.2.2.2.2.2.2.1);(have g10:=l.cells.2.2.2.2.2.2.2.2.2.2.1);(have H:=l.cells.2.2.2.2.2.2.2.2.2.2.2.2.2.2.2));all_goals
  go_wp2
  (try simp only[Exit.inBlock,Exit.then])
  first|refine bodyPost_ret (results_none rfl _ _ _) rfl ?_|refine bodyPost_end (results_none rfl _ _ _) rfl ?_
  refine⟨rfl,?_⟩;exact l.flags _ _ _ _ _ _ (by rw[<-hs];simp[useL])
theorem Play.use_any {F:Nat->Prop} {w W:World} {P:Nat} {o:Option Nat} {k:OpK} {s:St} {N:Nat} (p:Play F w W P o k s N) (i:Nat) (hi:i ∈ [1,2,3,4,6,7,8,14,24,25,26,31]) (hk:k.nm=opTx i) (m:Nat) (K:m < 256) (O:N<=90) {s':St} (hs:(⟨useL s.c (opTx i).toList m,s.b⟩:St)=s') :
  Calls Tryz.prog 178 #[.pointer (some ⟨P,0,none⟩),.int .u8 (m:Int)] W fun e w'=>e=.returned (.tuple #[])/\Play F w w' P o k s' (N+0):=by
 simp only[List.mem_cons,List.not_mem_nil,or_false] at hi;rcases hi with rfl|rfl|rfl|rfl|rfl|rfl|rfl|rfl|rfl|rfl|rfl|rfl
 ·rw[show (opTx 1).toList=[79,82,65] by rw[ByteArray.toList_eq];rfl] at hs;exact p.use_ORA hk m K O hs
 ·rw[show (opTx 2).toList=[65,78,68] by rw[ByteArray.toList_eq];rfl] at hs;exact p.use_AND hk m K O hs
 ·rw[show (opTx 3).toList=[69,79,82] by rw[ByteArray.toList_eq];rfl] at hs;exact p.use_EOR hk m K O hs
 ·rw[show (opTx 4).toList=[65,68,67] by rw[ByteArray.toList_eq];rfl] at hs;exact p.use_ADC hk m K O hs
 ·rw[show (opTx 6).toList=[76,68,65] by rw[ByteArray.toList_eq];rfl] at hs;exact p.use_LDA hk m K O hs
 ·rw[show (opTx 7).toList=[67,77,80] by rw[ByteArray.toList_eq];rfl] at hs;exact p.use_CMP hk m K O hs
 ·rw[show (opTx 8).toList=[83,66,67] by rw[ByteArray.toList_eq];rfl] at hs;exact p.use_SBC hk m K O hs
 ·rw[show (opTx 14).toList=[76,68,88] by rw[ByteArray.toList_eq];rfl] at hs;exact p.use_LDX hk m K O hs
 ·rw[show (opTx 24).toList=[76,68,89] by rw[ByteArray.toList_eq];rfl] at hs;exact p.use_LDY hk m K O hs
 ·rw[show (opTx 25).toList=[67,80,89] by rw[ByteArray.toList_eq];rfl] at hs;exact p.use_CPY hk m K O hs
 ·rw[show (opTx 26).toList=[67,80,88] by rw[ByteArray.toList_eq];rfl] at hs;exact p.use_CPX hk m K O hs
 ·rw[show (opTx 31).toList=[66,73,84] by rw[ByteArray.toList_eq];rfl] at hs;exact p.use_BIT hk m K O hs
theorem Play.remade_any {F:Nat->Prop} {w W:World} {P:Nat} {o:Option Nat} {k:OpK} {s:St} {N:Nat} (p:Play F w W P o k s N) (i:Nat) (hi:i ∈ [9,10,11,12,15,16]) (hk:k.nm=opTx i) (m:Nat) (K:m < 256) (O:N<=90) {z:Nat} {s':St} (hz:chgB (opTx i).toList m s.c.C=z) (hs:(⟨s.c.chg (opTx i).toList m,s.b⟩:St)=s') :
  Calls Tryz.prog 174 #[.pointer (some ⟨P,0,none⟩),.int .u8 (m:Int)] W fun e w'=>e=.returned (.int .u8 (z:Int))/\Play F w w' P o k s' (N+0):=by
 simp only[List.mem_cons,List.not_mem_nil,or_false] at hi;rcases hi with rfl|rfl|rfl|rfl|rfl|rfl
 ·rw[show (opTx 9).toList=[65,83,76] by rw[ByteArray.toList_eq];rfl] at hz hs;exact p.remade_ASL hk m K O hz hs
 ·rw[show (opTx 10).toList=[82,79,76] by rw[ByteArray.toList_eq];rfl] at hz hs;exact p.remade_ROL hk m K O hz hs
 ·rw[show (opTx 11).toList=[76,83,82] by rw[ByteArray.toList_eq];rfl] at hz hs;exact p.remade_LSR hk m K O hz hs
 ·rw[show (opTx 12).toList=[82,79,82] by rw[ByteArray.toList_eq];rfl] at hz hs;exact p.remade_ROR hk m K O hz hs
 ·rw[show (opTx 15).toList=[68,69,67] by rw[ByteArray.toList_eq];rfl] at hz hs;exact p.remade_DEC hk m K O hz hs
 ·rw[show (opTx 16).toList=[73,78,67] by rw[ByteArray.toList_eq];rfl] at hz hs;exact p.remade_INC hk m K O hz hs
theorem Play.branches_any {F:Nat->Prop} {w W:World} {P:Nat} {o:Option Nat} {k:OpK} {s:St} {N:Nat} (p:Play F w W P o k s N) (i:Nat) (hi:i ∈ [41,42,43,44,45,46,47,48]) (hk:k.nm=opTx i) :
  Calls Tryz.prog 181 #[.pointer (some ⟨P,0,none⟩)] W fun e w'=>e=.returned (.bool (aBA s.c (opTx i).toList))/\W=w':=by
 simp only[List.mem_cons,List.not_mem_nil,or_false] at hi;rcases hi with rfl|rfl|rfl|rfl|rfl|rfl|rfl|rfl
 ·rw[show (opTx 41).toList=[66,80,76] by rw[ByteArray.toList_eq];rfl];exact p.branches_BPL hk
 ·rw[show (opTx 42).toList=[66,77,73] by rw[ByteArray.toList_eq];rfl];exact p.branches_BMI hk
 ·rw[show (opTx 43).toList=[66,86,67] by rw[ByteArray.toList_eq];rfl];exact p.branches_BVC hk
 ·rw[show (opTx 44).toList=[66,86,83] by rw[ByteArray.toList_eq];rfl];exact p.branches_BVS hk
 ·rw[show (opTx 45).toList=[66,67,67] by rw[ByteArray.toList_eq];rfl];exact p.branches_BCC hk
 ·rw[show (opTx 46).toList=[66,67,83] by rw[ByteArray.toList_eq];rfl];exact p.branches_BCS hk
 ·rw[show (opTx 47).toList=[66,78,69] by rw[ByteArray.toList_eq];rfl];exact p.branches_BNE hk
 ·rw[show (opTx 48).toList=[66,69,81] by rw[ByteArray.toList_eq];rfl];exact p.branches_BEQ hk
theorem Play.stored_any {F:Nat->Prop} {w W:World} {P:Nat} {o:Option Nat} {k:OpK} {s:St} {N:Nat} (p:Play F w W P o k s N) (i:Nat) (hi:i ∈ [5,13,23]) (hk:k.nm=opTx i) :
  Calls Tryz.prog 180 #[.pointer (some ⟨P,0,none⟩)] W fun e w'=>e=.returned (.int .u8 ((iCA s.c (opTx i).toList:Nat):Int))/\W=w':=by
 simp only[List.mem_cons,List.not_mem_nil,or_false] at hi;rcases hi with rfl|rfl|rfl
 ·rw[show (opTx 5).toList=[83,84,65] by rw[ByteArray.toList_eq];rfl];exact p.stored_STA hk
 ·rw[show (opTx 13).toList=[83,84,88] by rw[ByteArray.toList_eq];rfl];exact p.stored_STX hk
 ·rw[show (opTx 23).toList=[83,84,89] by rw[ByteArray.toList_eq];rfl];exact p.stored_STY hk

end Go.Proofs.YtckfdbjjjgfbfaaGreat
