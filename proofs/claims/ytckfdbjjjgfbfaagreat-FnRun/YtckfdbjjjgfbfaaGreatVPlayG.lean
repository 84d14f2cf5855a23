import Derived.Test.YtckfdbjjjgfbfaaGreatVPlayB
set_option linter.unusedVariables false
set_option linter.unusedSimpArgs false
set_option maxRecDepth 100000
set_option maxHeartbeats 2000000
namespace Go.Proofs.YtckfdbjjjgfbfaaGreat
open Go.RowKit
theorem Play.moved_INX {F:Nat->Prop} {w W:World} {P:Nat} {o:Option Nat} {k:OpK} {s:St} {N:Nat} (p:Play F w W P o k s N) (hk:k.nm=⟨#[73,78,88]⟩) :
  Calls Tryz.prog 175 #[.pointer (some ⟨P,0,none⟩)] W fun e w'=>e=.returned (.int .u8 (((s.c.X+1) % 256:Nat):Int))/\W=w':=by
 obtain⟨Q,U,hY,T,R⟩:=p.pl.ok;obtain⟨g0,g1,g2,g3,g4,g5,g6,g7,g8,g9,g10,r,j,l,B,E⟩:=p.cells;rw[hk] at j;go_enter Tryz.func175,Tryz.ntmps175;go_wp2;go_ret;refine⟨?_,rfl⟩;first|rfl|exact congrArg (fun v=>Ending.returned (Value.int .u8 v)) rQ
theorem Play.moved_DEX {F:Nat->Prop} {w W:World} {P:Nat} {o:Option Nat} {k:OpK} {s:St} {N:Nat} (p:Play F w W P o k s N) (hk:k.nm=⟨#[68,69,88]⟩) :
  Calls Tryz.prog 175 #[.pointer (some ⟨P,0,none⟩)] W fun e w'=>e=.returned (.int .u8 (((s.c.X+255) % 256:Nat):Int))/\W=w':=by
 obtain⟨Q,U,hY,T,R⟩:=p.pl.ok;obtain⟨g0,g1,g2,g3,g4,g5,g6,g7,g8,g9,g10,r,j,l,B,E⟩:=p.cells;rw[hk] at j;go_enter Tryz.func175,Tryz.ntmps175;go_wp2;go_ret;refine⟨?_,rfl⟩;first|rfl|exact congrArg (fun v=>Ending.returned (Value.int .u8 v)) rQ
theorem Play.moved_INY {F:Nat->Prop} {w W:World} {P:Nat} {o:Option Nat} {k:OpK} {s:St} {N:Nat} (p:Play F w W P o k s N) (hk:k.nm=⟨#[73,78,89]⟩) :
  Calls Tryz.prog 175 #[.pointer (some ⟨P,0,none⟩)] W fun e w'=>e=.returned (.int .u8 (((s.c.Y+1) % 256:Nat):Int))/\W=w':=by
 obtain⟨Q,U,hY,T,R⟩:=p.pl.ok;obtain⟨g0,g1,g2,g3,g4,g5,g6,g7,g8,g9,g10,r,j,l,B,E⟩:=p.cells;rw[hk] at j;go_enter Tryz.func175,Tryz.ntmps175;go_wp2;go_ret;refine⟨?_,rfl⟩;first|rfl|exact congrArg (fun v=>Ending.returned (Value.int .u8 v)) rQ
theorem Play.moved_DEY {F:Nat->Prop} {w W:World} {P:Nat} {o:Option Nat} {k:OpK} {s:St} {N:Nat} (p:Play F w W P o k s N) (hk:k.nm=⟨#[68,69,89]⟩) :
  Calls Tryz.prog 175 #[.pointer (some ⟨P,0,none⟩)] W fun e w'=>e=.returned (.int .u8 (((s.c.Y+255) % 256:Nat):Int))/\W=w':=by
 obtain⟨Q,U,hY,T,R⟩:=p.pl.ok;obtain⟨g0,g1,g2,g3,g4,g5,g6,g7,g8,g9,g10,r,j,l,B,E⟩:=p.cells;rw[hk] at j;go_enter Tryz.func175,Tryz.ntmps175;go_wp2;go_ret;refine⟨?_,rfl⟩;first|rfl|exact congrArg (fun v=>Ending.returned (Value.int .u8 v)) rQ
theorem Play.moved_TAX {F:Nat->Prop} {w W:World} {P:Nat} {o:Option Nat} {k:OpK} {s:St} {N:Nat} (p:Play F w W P o k s N) (hk:k.nm=⟨#[84,65,88]⟩) :
  Calls Tryz.prog 175 #[.pointer (some ⟨P,0,none⟩)] W fun e w'=>e=.returned (.int .u8 ((s.c.A:Nat):Int))/\W=w':=by
 obtain⟨Q,U,hY,T,R⟩:=p.pl.ok;obtain⟨g0,g1,g2,g3,g4,g5,g6,g7,g8,g9,g10,r,j,l,B,E⟩:=p.cells;rw[hk] at j;go_enter Tryz.func175,Tryz.ntmps175;go_wp2;go_ret;refine⟨?_,rfl⟩;first|rfl|exact congrArg (fun v=>Ending.returned (Value.int .u8 v)) rQ
theorem Play.moved_TAY {F:Nat->Prop} {w W:World} {P:Nat} {o:Option Nat} {k:OpK} {s:St} {N:Nat} (p:Play F w W P o k s N) (hk:k.nm=⟨#[84,65,89]⟩) :
  Calls Tryz.prog 175 #[.pointer (some ⟨P,0,none⟩)] W fun e w'=>e=.returned (.int .u8 ((s.c.A:Nat):Int))/\W=w':=by
 obtain⟨Q,U,hY,T,R⟩:=p.pl.ok;obtain⟨g0,g1,g2,g3,g4,g5,g6,g7,g8,g9,g10,r,j,l,B,E⟩:=p.cells;rw[hk] at j;go_enter Tryz.func175,Tryz.ntmps175;go_wp2;go_ret;refine⟨?_,rfl⟩;first|rfl|exact congrArg (fun v=>Ending.returned (Value.int .u8 v)) rQ
theorem Play.moved_TYA {F:Nat->Prop} {w W:World} {P:Nat} {o:Option Nat} {k:OpK} {s:St} {N:Nat} (p:Play F w W P o k s N) (hk:k.nm=⟨#[84,89,65]⟩) :
  Calls Tryz.prog 175 #[.pointer (some ⟨P,0,none⟩)] W fun e w'=>e=.returned (.int .u8 ((s.c.Y:Nat):Int))/\W=w':=by
 obtain⟨Q,U,hY,T,R⟩:=p.pl.ok;obtain⟨g0,g1,g2,g3,g4,g5,g6,g7,g8,g9,g10,r,j,l,B,E⟩:=p.cells;rw[hk] at j;go_enter Tryz.func175,Tryz.ntmps175;go_wp2;go_ret;refine⟨?_,rfl⟩;first|rfl|exact congrArg (fun v=>Ending.returned (Value.int .u8 v)) rQ
theorem Play.moved_TSX {F:Nat->Prop} {w W:World} {P:Nat} {o:Option Nat} {k:OpK} {s:St} {N:Nat} (p:Play F w W P o k s N) (hk:k.nm=⟨#[84,83,88]⟩) :
  Calls Tryz.prog 175 #[.pointer (some ⟨P,0,none⟩)] W fun e w'=>e=.returned (.int .u8 ((s.c.S:Nat):Int))/\W=w':=by
 obtain⟨Q,U,hY,T,R⟩:=p.pl.ok;obtain⟨g0,g1,g2,g3,g4,g5,g6,g7,g8,g9,g10,r,j,l,B,E⟩:=p.cells;rw[hk] at j;go_enter Tryz.func175,Tryz.ntmps175;go_wp2;go_ret;refine⟨?_,rfl⟩;first|rfl|exact congrArg (fun v=>Ending.returned (Value.int .u8 v)) rQ
theorem Play.moved_TXA {F:Nat->Prop} {w W:World} {P:Nat} {o:Option Nat} {k:OpK} {s:St} {N:Nat} (p:Play F w W P o k s N) (hk:k.nm=⟨#[84,88,65]⟩) :
  Calls Tryz.prog 175 #[.pointer (some ⟨P,0,none⟩)] W fun e w'=>e=.returned (.int .u8 ((s.c.X:Nat):Int))/\W=w':=by
 obtain⟨Q,U,hY,T,R⟩:=p.pl.ok;obtain⟨g0,g1,g2,g3,g4,g5,g6,g7,g8,g9,g10,r,j,l,B,E⟩:=p.cells;rw[hk] at j;go_enter Tryz.func175,Tryz.ntmps175;go_wp2;go_ret;refine⟨?_,rfl⟩;first|rfl|exact congrArg (fun v=>Ending.returned (Value.int .u8 v)) rQ
theorem Play.moved_TXS {F:Nat->Prop} {w W:World} {P:Nat} {o:Option Nat} {k:OpK} {s:St} {N:Nat} (p:Play F w W P o k s N) (hk:k.nm=⟨#[84,88,83]⟩) :
  Calls Tryz.prog 175 #[.pointer (some ⟨P,0,none⟩)] W fun e w'=>e=.returned (.int .u8 ((s.c.X:Nat):Int))/\W=w':=by
 obtain⟨Q,U,hY,T,R⟩:=p.pl.ok;obtain⟨g0,g1,g2,g3,g4,g5,g6,g7,g8,g9,g10,r,j,l,B,E⟩:=p.cells;rw[hk] at j;go_enter Tryz.func175,Tryz.ntmps175;go_wp2;go_ret;refine⟨?_,rfl⟩;first|rfl|exact congrArg (fun v=>Ending.returned (Value.int .u8 v)) rQ
theorem Play.stored_STA {F:Nat->Prop} {w W:World} {P:Nat} {o:Option Nat} {k:OpK} {s:St} {N:Nat} (p:Play F w W P o k s N) (hk:k.nm=⟨#[83,84,65]⟩) :
  Calls Tryz.prog 180 #[.pointer (some ⟨P,0,none⟩)] W fun e w'=>e=.returned (.int .u8 ((s.c.A:Nat):Int))/\W=w':=by
 obtain⟨Q,U,hY,T,R⟩:=p.pl.ok;obtain⟨g0,g1,g2,g3,g4,g5,g6,g7,g8,g9,g10,r,j,l,B,E⟩:=p.cells;rw[hk] at j;go_enter Tryz.func180,Tryz.ntmps180;go_wp2;go_ret;refine⟨?_,rfl⟩;first|rfl|exact congrArg (fun v=>Ending.returned (Value.int .u8 v)) rQ
theorem Play.stored_STX {F:Nat->Prop} {w W:World} {P:Nat} {o:Option Nat} {k:OpK} {s:St} {N:Nat} (p:Play F w W P o k s N) (hk:k.nm=⟨#[83,84,88]⟩) :
  Calls Tryz.prog 180 #[.pointer (some ⟨P,0,none⟩)] W fun e w'=>e=.returned (.int .u8 ((s.c.X:Nat):Int))/\W=w':=by
 obtain⟨Q,U,hY,T,R⟩:=p.pl.ok;obtain⟨g0,g1,g2,g3,g4,g5,g6,g7,g8,g9,g10,r,j,l,B,E⟩:=p.cells;rw[hk] at j;go_enter Tryz.func180,Tryz.ntmps180;go_wp2;go_ret;refine⟨?_,rfl⟩;first|rfl|exact congrArg (fun v=>Ending.returned (Value.int .u8 v)) rQ
theorem Play.stored_STY {F:Nat->Prop} {w W:World} {P:Nat} {o:Option Nat} {k:OpK} {s:St} {N:Nat} (p:Play F w W P o k s N) (hk:k.nm=⟨#[83,84,89]⟩) :
  Calls Tryz.prog 180 #[.pointer (some ⟨P,0,none⟩)] W fun e w'=>e=.returned (.int .u8 ((s.c.Y:Nat):Int))/\W=w':=by
 obtain⟨Q,U,hY,T,R⟩:=p.pl.ok;obtain⟨g0,g1,g2,g3,g4,g5,g6,g7,g8,g9,g10,r,j,l,B,E⟩:=p.cells;rw[hk] at j;go_enter Tryz.func180,Tryz.ntmps180;go_wp2;go_ret;refine⟨?_,rfl⟩;first|rfl|exact congrArg (fun v=>Ending.returned (Value.int .u8 v)) rQ
theorem Play.branches_BPL {F:Nat->Prop} {w W:World} {P:Nat} {o:Option Nat} {k:OpK} {s:St} {N:Nat} (p:Play F w W P o k s N) (hk:k.nm=⟨#[66,80,76]⟩) :
  Calls Tryz.prog 181 #[.pointer (some ⟨P,0,none⟩)] W fun e w'=>e=.returned (.bool (!s.c.N))/\W=w':=by
 obtain⟨Q,U,hY,T,R⟩:=p.pl.ok;obtain⟨g0,g1,g2,g3,g4,g5,g6,g7,g8,g9,g10,r,j,l,B,E⟩:=p.cells;rw[hk] at j;go_enter Tryz.func181,Tryz.ntmps181;go_wp2;go_ret;refine⟨?_,rfl⟩;first|rfl|simp
theorem Play.branches_BMI {F:Nat->Prop} {w W:World} {P:Nat} {o:Option Nat} {k:OpK} {s:St} {N:Nat} (p:Play F w W P o k s N) (hk:k.nm=⟨#[66,77,73]⟩) :
  Calls Tryz.prog 181 #[.pointer (some ⟨P,0,none⟩)] W fun e w'=>e=.returned (.bool (s.c.N))/\W=w':=by
 obtain⟨Q,U,hY,T,R⟩:=p.pl.ok;obtain⟨g0,g1,g2,g3,g4,g5,g6,g7,g8,g9,g10,r,j,l,B,E⟩:=p.cells;rw[hk] at j;go_enter Tryz.func181,Tryz.ntmps181;go_wp2;go_ret;refine⟨?_,rfl⟩;first|rfl|simp
theorem Play.branches_BVC {F:Nat->Prop} {w W:World} {P:Nat} {o:Option Nat} {k:OpK} {s:St} {N:Nat} (p:Play F w W P o k s N) (hk:k.nm=⟨#[66,86,67]⟩) :
  Calls Tryz.prog 181 #[.pointer (some ⟨P,0,none⟩)] W fun e w'=>e=.returned (.bool (!s.c.V))/\W=w':=by
 obtain⟨Q,U,hY,T,R⟩:=p.pl.ok;obtain⟨g0,g1,g2,g3,g4,g5,g6,g7,g8,g9,g10,r,j,l,B,E⟩:=p.cells;rw[hk] at j;go_enter Tryz.func181,Tryz.ntmps181;go_wp2;go_ret;refine⟨?_,rfl⟩;first|rfl|simp
theorem Play.branches_BVS {F:Nat->Prop} {w W:World} {P:Nat} {o:Option Nat} {k:OpK} {s:St} {N:Nat} (p:Play F w W P o k s N) (hk:k.nm=⟨#[66,86,83]⟩) :
  Calls Tryz.prog 181 #[.pointer (some ⟨P,0,none⟩)] W fun e w'=>e=.returned (.bool (s.c.V))/\W=w':=by
 obtain⟨Q,U,hY,T,R⟩:=p.pl.ok;obtain⟨g0,g1,g2,g3,g4,g5,g6,g7,g8,g9,g10,r,j,l,B,E⟩:=p.cells;rw[hk] at j;go_enter Tryz.func181,Tryz.ntmps181;go_wp2;go_ret;refine⟨?_,rfl⟩;first|rfl|simp
theorem Play.branches_BCC {F:Nat->Prop} {w W:World} {P:Nat} {o:Option Nat} {k:OpK} {s:St} {N:Nat} (p:Play F w W P o k s N) (hk:k.nm=⟨#[66,67,67]⟩) :
  Calls Tryz.prog 181 #[.pointer (some ⟨P,0,none⟩)] W fun e w'=>e=.returned (.bool (!s.c.C))/\W=w':=by
 obtain⟨Q,U,hY,T,R⟩:=p.pl.ok;obtain⟨g0,g1,g2,g3,g4,g5,g6,g7,g8,g9,g10,r,j,l,B,E⟩:=p.cells;rw[hk] at j;go_enter Tryz.func181,Tryz.ntmps181;go_wp2;go_ret;refine⟨?_,rfl⟩;first|rfl|simp
theorem Play.branches_BCS {F:Nat->Prop} {w W:World} {P:Nat} {o:Option Nat} {k:OpK} {s:St} {N:Nat} (p:Play F w W P o k s N) (hk:k.nm=⟨#[66,67,83]⟩) :
  Calls Tryz.prog 181 #[.pointer (some ⟨P,0,none⟩)] W fun e w'=>e=.returned (.bool (s.c.C))/\W=w':=by
 obtain⟨Q,U,hY,T,R⟩:=p.pl.ok;obtain⟨g0,g1,g2,g3,g4,g5,g6,g7,g8,g9,g10,r,j,l,B,E⟩:=p.cells;rw[hk] at j;go_enter Tryz.func181,Tryz.ntmps181;go_wp2;go_ret;refine⟨?_,rfl⟩;first|rfl|simp
theorem Play.branches_BNE {F:Nat->Prop} {w W:World} {P:Nat} {o:Option Nat} {k:OpK} {s:St} {N:Nat} (p:Play F w W P o k s N) (hk:k.nm=⟨#[66,78,69]⟩) :
  Calls Tryz.prog 181 #[.pointer (some ⟨P,0,none⟩)] W fun e w'=>e=.returned (.bool (!s.c.Z))/\W=w':=by
 obtain⟨Q,U,hY,T,R⟩:=p.pl.ok;obtain⟨g0,g1,g2,g3,g4,g5,g6,g7,g8,g9,g10,r,j,l,B,E⟩:=p.cells;rw[hk] at j;go_enter Tryz.func181,Tryz.ntmps181;go_wp2;go_ret;refine⟨?_,rfl⟩;first|rfl|simp
theorem Play.branches_BEQ {F:Nat->Prop} {w W:World} {P:Nat} {o:Option Nat} {k:OpK} {s:St} {N:Nat} (p:Play F w W P o k s N) (hk:k.nm=⟨#[66,69,81]⟩) :
  Calls Tryz.prog 181 #[.pointer (some ⟨P,0,none⟩)] W fun e w'=>e=.returned (.bool (s.c.Z))/\W=w':=by
 obtain⟨Q,U,hY,T,R⟩:=p.pl.ok;obtain⟨g0,g1,g2,g3,g4,g5,g6,g7,g8,g9,g10,r,j,l,B,E⟩:=p.cells;rw[hk] at j;go_enter Tryz.func181,Tryz.ntmps181;go_wp2;go_ret;refine⟨?_,rfl⟩;first|rfl|simp
theorem Play.turnFlag_CLC {F:Nat->Prop} {w W:World} {P:Nat} {o:Option Nat} {k:OpK} {s:St} {N:Nat} (p:Play F w W P o k s N) (hk:k.nm=⟨#[67,76,67]⟩)  (hN:N<=90) {s':St} (hs:⟨flagL s.c [67,76,67],s.b⟩=s') :
  Calls Tryz.prog 177 #[.pointer (some ⟨P,0,none⟩)] W fun e w'=>e=.returned (.tuple #[])/\Play F w w' P o k s' (N+0):=by
 obtain⟨Q,U,hY,T,R⟩:=p.pl.ok;go_enter Tryz.func177,Tryz.ntmps177;obtain⟨g0,g1,g2,g3,g4,g5,g6,g7,g8,g9,g10,r,j,l,B,E⟩:=p.cells;rw[hk] at j;go_wp2
 (try simp only[Exit.inBlock,Exit.then])
 first|refine bodyPost_ret (results_none rfl _ _ _) rfl ?_|refine bodyPost_end (results_none rfl _ _ _) rfl ?_
 refine⟨rfl,?_⟩;exact (by rw[<-hs];exact p.flag 10 false { s.c with C:=false } rfl rfl rfl rfl rfl rfl)
theorem Play.turnFlag_SEC {F:Nat->Prop} {w W:World} {P:Nat} {o:Option Nat} {k:OpK} {s:St} {N:Nat} (p:Play F w W P o k s N) (hk:k.nm=⟨#[83,69,67]⟩)  (hN:N<=90) {s':St} (hs:⟨flagL s.c [83,69,67],s.b⟩=s') :
  Calls Tryz.prog 177 #[.pointer (some ⟨P,0,none⟩)] W fun e w'=>e=.returned (.tuple #[])/\Play F w w' P o k s' (N+0):=by
 obtain⟨Q,U,hY,T,R⟩:=p.pl.ok;go_enter Tryz.func177,Tryz.ntmps177;obtain⟨g0,g1,g2,g3,g4,g5,g6,g7,g8,g9,g10,r,j,l,B,E⟩:=p.cells;rw[hk] at j;go_wp2
 (try simp only[Exit.inBlock,Exit.then])
 first|refine bodyPost_ret (results_none rfl _ _ _) rfl ?_|refine bodyPost_end (results_none rfl _ _ _) rfl ?_
 refine⟨rfl,?_⟩;exact (by rw[<-hs];exact p.flag 10 true { s.c with C:=true } rfl rfl rfl rfl rfl rfl)
theorem Play.turnFlag_CLI {F:Nat->Prop} {w W:World} {P:Nat} {o:Option Nat} {k:OpK} {s:St} {N:Nat} (p:Play F w W P o k s N) (hk:k.nm=⟨#[67,76,73]⟩)  (hN:N<=90) {s':St} (hs:⟨flagL s.c [67,76,73],s.b⟩=s') :
  Calls Tryz.prog 177 #[.pointer (some ⟨P,0,none⟩)] W fun e w'=>e=.returned (.tuple #[])/\Play F w w' P o k s' (N+0):=by
 obtain⟨Q,U,hY,T,R⟩:=p.pl.ok;go_enter Tryz.func177,Tryz.ntmps177;obtain⟨g0,g1,g2,g3,g4,g5,g6,g7,g8,g9,g10,r,j,l,B,E⟩:=p.cells;rw[hk] at j;go_wp2
 (try simp only[Exit.inBlock,Exit.then])
 first|refine bodyPost_ret (results_none rfl _ _ _) rfl ?_|refine bodyPost_end (results_none rfl _ _ _) rfl ?_
 refine⟨rfl,?_⟩;exact (by rw[<-hs];exact p.flag 8 false { s.c with I:=false } rfl rfl rfl rfl rfl rfl)
theorem Play.turnFlag_SEI {F:Nat->Prop} {w W:World} {P:Nat} {o:Option Nat} {k:OpK} {s:St} {N:Nat} (p:Play F w W P o k s N) (hk:k.nm=⟨#[83,69,73]⟩)  (hN:N<=90) {s':St} (hs:⟨flagL s.c [83,69,73],s.b⟩=s') :
  Calls Tryz.prog 177 #[.pointer (some ⟨P,0,none⟩)] W fun e w'=>e=.returned (.tuple #[])/\Play F w w' P o k s' (N+0):=by
 obtain⟨Q,U,hY,T,R⟩:=p.pl.ok;go_enter Tryz.func177,Tryz.ntmps177;obtain⟨g0,g1,g2,g3,g4,g5,g6,g7,g8,g9,g10,r,j,l,B,E⟩:=p.cells;rw[hk] at j;go_wp2
 (try simp only[Exit.inBlock,Exit.then])
 first|refine bodyPost_ret (results_none rfl _ _ _) rfl ?_|refine bodyPost_end (results_none rfl _ _ _) rfl ?_
 refine⟨rfl,?_⟩;exact (by rw[<-hs];exact p.flag 8 true { s.c with I:=true } rfl rfl rfl rfl rfl rfl)
theorem Play.turnFlag_CLV {F:Nat->Prop} {w W:World} {P:Nat} {o:Option Nat} {k:OpK} {s:St} {N:Nat} (p:Play F w W P o k s N) (hk:k.nm=⟨#[67,76,86]⟩)  (hN:N<=90) {s':St} (hs:⟨flagL s.c [67,76,86],s.b⟩=s') :
  Calls Tryz.prog 177 #[.pointer (some ⟨P,0,none⟩)] W fun e w'=>e=.returned (.tuple #[])/\Play F w w' P o k s' (N+0):=by
 obtain⟨Q,U,hY,T,R⟩:=p.pl.ok;go_enter Tryz.func177,Tryz.ntmps177;obtain⟨g0,g1,g2,g3,g4,g5,g6,g7,g8,g9,g10,r,j,l,B,E⟩:=p.cells;rw[hk] at j;go_wp2
 (try simp only[Exit.inBlock,Exit.then])
 first|refine bodyPost_ret (results_none rfl _ _ _) rfl ?_|refine bodyPost_end (results_none rfl _ _ _) rfl ?_
 refine⟨rfl,?_⟩;exact (by rw[<-hs];exact p.flag 6 false { s.c with V:=false } rfl rfl rfl rfl rfl rfl)
theorem Play.turnFlag_CLD {F:Nat->Prop} {w W:World} {P:Nat} {o:Option Nat} {k:OpK} {s:St} {N:Nat} (p:Play F w W P o k s N) (hk:k.nm=⟨#[67,76,68]⟩)  (hN:N<=90) {s':St} (hs:⟨flagL s.c [67,76,68],s.b⟩=s') :
  Calls Tryz.prog 177 #[.pointer (some ⟨P,0,none⟩)] W fun e w'=>e=.returned (.tuple #[])/\Play F w w' P o k s' (N+0):=by
 obtain⟨Q,U,hY,T,R⟩:=p.pl.ok;go_enter Tryz.func177,Tryz.ntmps177;obtain⟨g0,g1,g2,g3,g4,g5,g6,g7,g8,g9,g10,r,j,l,B,E⟩:=p.cells;rw[hk] at j;go_wp2
 (try simp only[Exit.inBlock,Exit.then])
 first|refine bodyPost_ret (results_none rfl _ _ _) rfl ?_|refine bodyPost_end (results_none rfl _ _ _) rfl ?_
 refine⟨rfl,?_⟩;exact (by rw[<-hs];exact p.flag 7 false { s.c with D:=false } rfl rfl rfl rfl rfl rfl)
theorem Play.turnFlag_SED {F:Nat->Prop} {w W:World} {P:Nat} {o:Option Nat} {k:OpK} {s:St} {N:Nat} (p:Play F w W P o k s N) (hk:k.nm=⟨#[83,69,68]⟩)  (hN:N<=90) {s':St} (hs:⟨flagL s.c [83,69,68],s.b⟩=s') :
  Calls Tryz.prog 177 #[.pointer (some ⟨P,0,none⟩)] W fun e w'=>e=.returned (.tuple #[])/\Play F w w' P o k s' (N+0):=by
 obtain⟨Q,U,hY,T,R⟩:=p.pl.ok;go_enter Tryz.func177,Tryz.ntmps177;obtain⟨g0,g1,g2,g3,g4,g5,g6,g7,g8,g9,g10,r,j,l,B,E⟩:=p.cells;rw[hk] at j;go_wp2
 (try simp only[Exit.inBlock,Exit.then])
 first|refine bodyPost_ret (results_none rfl _ _ _) rfl ?_|refine bodyPost_end (results_none rfl _ _ _) rfl ?_
 refine⟨rfl,?_⟩;exact (by rw[<-hs];exact p.flag 7 true { s.c with D:=true } rfl rfl rfl rfl rfl rfl)
theorem Play.turnFlag_NOP {F:Nat->Prop} {w W:World} {P:Nat} {o:Option Nat} {k:OpK} {s:St} {N:Nat} (p:Play F w W P o k s N) (hk:k.nm=⟨#[78,79,80]⟩)  (hN:N<=90) {s':St} (hs:⟨flagL s.c [78,79,80],s.b⟩=s') :
  Calls Tryz.prog 177 #[.pointer (some ⟨P,0,none⟩)] W fun e w'=>e=.returned (.tuple #[])/\Play F w w' P o k s' (N+0):=by
 obtain⟨Q,U,hY,T,R⟩:=p.pl.ok;go_enter Tryz.func177,Tryz.ntmps177;obtain⟨g0,g1,g2,g3,g4,g5,g6,g7,g8,g9,g10,r,j,l,B,E⟩:=p.cells;rw[hk] at j;go_wp2
 (try simp only[Exit.inBlock,Exit.then])
 first|refine bodyPost_ret (results_none rfl _ _ _) rfl ?_|refine bodyPost_end (results_none rfl _ _ _) rfl ?_
 refine⟨rfl,?_⟩;exact (by rw[<-hs];exact p)
theorem Play.implied_TXA {F:Nat->Prop} {w W:World} {P:Nat} {o:Option Nat} {k:OpK} {s:St} {N:Nat} (p:Play F w W P o k s N) (hk:k.nm=⟨#[84,88,65]⟩) (hm:k.md=0) (hN:N<=88) {s':St} (hs:⟨impL s.c [84,88,65] 0,s.b.rd s.c.PC⟩=s') :
  Calls Tryz.prog 162 #[.pointer (some ⟨P,0,none⟩)] W fun e w'=>e=.returned (.tuple #[])/\Play F w w' P o k s' (N+1):=by
 obtain⟨Q,U,hY,T,R⟩:=p.pl.ok;obtain⟨b1,hb1⟩:∃ r_,s.b.rd s.c.PC=r_:=⟨_,rfl⟩;have vb:s.c.X < 256:=dQ;have O:(⟨{ s.c with A:=s.c.X,N:=bit7 (s.c.X:Nat),Z:=isZ (s.c.X:Nat) },b1⟩:St)=s':=kQd;have K:=j_ O;clear hs O;have Hb1:=j_ hb1;clear hb1;go_enter Tryz.func162,Tryz.ntmps162;go_wp2_with fail;refine (p.idle dQ (s':=⟨s.c,b1⟩) gQc).mono ?_;rintro e w1 ⟨rfl,p2⟩;obtain⟨g0,g1,g2,g3,g4,g5,g6,g7,g8,g9,g10,r,j,l,B,E⟩:=p2.cells;rw[hk] at j;rw[hm] at l;go_wp2_with fail;refine (p2.moved_TXA hk).mono ?_;rintro e w3 ⟨rfl,rfl⟩;go_wp2_with fail;have p4:=p2.setA _ (s.c.X) rfl vb rfl;clear g0 g1 g2 g3 g4 g5 g6 g7 g8 g9 g10 r j l B E;clear p2;generalize w1.setCell ⟨P,0,none⟩ (.int .u8 ((s.c.X:Nat):Int))=W5 at p4 ⊢;obtain⟨g0,g1,g2,g3,g4,g5,g6,g7,g8,g9,g10,r,j,l,B,E⟩:=p4.cells;rw[hk] at j;go_wp2_with fail;clear g0 g1 g2 g3 g4 g5 g6 g7 g8 g9 g10 r j l B E;go_wp2_with fail;have H:=p4.drew;have g0:=H.cells.1;have g5:=H.cells.2.2.2.2.2.1;have g6:=H.cells.2.2.2.2.2.2.1;have g7:=H.cells.2.2.2.2.2.2.2.1;have g8:=H.cells.2.2.2.2.2.2.2.2.1;have g9:=H.cells.2.2.2.2.2.2.2.2.2.1;have g10:=H.cells.2.2.2.2.2.2.2.2.2.2.1;have E:=H.cells.2.2.2.2.2.2.2.2.2.2.2.2.2.2.2;go_region_with (go_at_call 176;refine (iBA _ _ _ _ _ _ _ _ dQ dQ).mono ?_;rintro e w7 ⟨rfl,d8⟩;(have J:=H.below d8);clear g0 g5 g6 g7 g8 g9 g10 E;(have g0:=J.cells.1);(have g5:=J.cells.2.2.2.2.2.1);(have g6:=J.cells.2.2.2.2.2.2.1);(have g7:=J.cells.2.2.2.2.2.2.2.1);(have g8:=J.cells.2.2.2.2.2.2.2.2.1);(have g9:=J.cells.2.2.2.2.2.2.2.2.2.1);(have g10:=J.cells.2.2.2.2.2.2.2.2.2.2.1);(have E:=J.cells.2.2.2.2.2.2.2.2.2.2.2.2.2.2.2));all_goals
  go_wp2
  (try simp only[Exit.inBlock,Exit.then])
  first|refine bodyPost_ret (results_none rfl _ _ _) rfl ?_|refine bodyPost_end (results_none rfl _ _ _) rfl ?_
  refine⟨rfl,?_⟩;exact J.flags _ _ _ _ _ _ K.out
theorem Play.implied_TAX {F:Nat->Prop} {w W:World} {P:Nat} {o:Option Nat} {k:OpK} {s:St} {N:Nat} (p:Play F w W P o k s N) (hk:k.nm=⟨#[84,65,88]⟩) (hm:k.md=0) (hN:N<=88) {s':St} (hs:⟨impL s.c [84,65,88] 0,s.b.rd s.c.PC⟩=s') :
  Calls Tryz.prog 162 #[.pointer (some ⟨P,0,none⟩)] W fun e w'=>e=.returned (.tuple #[])/\Play F w w' P o k s' (N+1):=by
 obtain⟨Q,U,hY,T,R⟩:=p.pl.ok;obtain⟨b1,hb1⟩:∃ r_,s.b.rd s.c.PC=r_:=⟨_,rfl⟩;have vb:s.c.A < 256:=dQ;have O:(⟨{ s.c with X:=s.c.A,N:=bit7 (s.c.A:Nat),Z:=isZ (s.c.A:Nat) },b1⟩:St)=s':=kQd;have K:=j_ O;clear hs O;have Hb1:=j_ hb1;clear hb1;go_enter Tryz.func162,Tryz.ntmps162;go_wp2_with fail;refine (p.idle dQ (s':=⟨s.c,b1⟩) gQc).mono ?_;rintro e w1 ⟨rfl,p2⟩;obtain⟨g0,g1,g2,g3,g4,g5,g6,g7,g8,g9,g10,r,j,l,B,E⟩:=p2.cells;rw[hk] at j;rw[hm] at l;go_wp2_with fail;refine (p2.moved_TAX hk).mono ?_;rintro e w3 ⟨rfl,rfl⟩;go_wp2_with fail;have p4:=p2.setX _ (s.c.A) rfl vb rfl;clear g0 g1 g2 g3 g4 g5 g6 g7 g8 g9 g10 r j l B E;clear p2;generalize w1.setCell ⟨P,1,none⟩ (.int .u8 ((s.c.A:Nat):Int))=W5 at p4 ⊢;obtain⟨g0,g1,g2,g3,g4,g5,g6,g7,g8,g9,g10,r,j,l,B,E⟩:=p4.cells;rw[hk] at j;go_wp2_with fail;clear g0 g1 g2 g3 g4 g5 g6 g7 g8 g9 g10 r j l B E;go_wp2_with fail;have H:=p4.drew;have g1:=H.cells.2.1;have g5:=H.cells.2.2.2.2.2.1;have g6:=H.cells.2.2.2.2.2.2.1;have g7:=H.cells.2.2.2.2.2.2.2.1;have g8:=H.cells.2.2.2.2.2.2.2.2.1;have g9:=H.cells.2.2.2.2.2.2.2.2.2.1;have g10:=H.cells.2.2.2.2.2.2.2.2.2.2.1;have E:=H.cells.2.2.2.2.2.2.2.2.2.2.2.2.2.2.2;go_region_with (go_at_call 176;refine (iBA _ _ _ _ _ _ _ _ dQ dQ).mono ?_;rintro e w7 ⟨rfl,d8⟩;(have J:=H.below d8);clear g1 g5 g6 g7 g8 g9 g10 E;(have g1:=J.cells.2.1);(have g5:=J.cells.2.2.2.2.2.1);(have g6:=J.cells.2.2.2.2.2.2.1);(have g7:=J.cells.2.2.2.2.2.2.2.1);(have g8:=J.cells.2.2.2.2.2.2.2.2.1);(have g9:=J.cells.2.2.2.2.2.2.2.2.2.1);(have g10:=J.cells.2.2.2.2.2.2.2.2.2.2.1);(have E:=J.cells.2.2.2.2.2.2.2.2.2.2.2.2.2.2.2));all_goals
  go_wp2
  (try simp only[Exit.inBlock,Exit.then])
  first|refine bodyPost_ret (results_none rfl _ _ _) rfl ?_|refine bodyPost_end (results_none rfl _ _ _) rfl ?_
  refine⟨rfl,?_⟩;exact J.flags _ _ _ _ _ _ K.out
theorem Play.implied_DEX {F:Nat->Prop} {w W:World} {P:Nat} {o:Option Nat} {k:OpK} {s:St} {N:Nat} (p:Play F w W P o k s N) (hk:k.nm=⟨#[68,69,88]⟩) (hm:k.md=0) (hN:N<=88) {s':St} (hs:⟨impL s.c [68,69,88] 0,s.b.rd s.c.PC⟩=s') :
  Calls Tryz.prog 162 #[.pointer (some ⟨P,0,none⟩)] W fun e w'=>e=.returned (.tuple #[])/\Play F w w' P o k s' (N+1):=by
 obtain⟨Q,U,hY,T,R⟩:=p.pl.ok;obtain⟨b1,hb1⟩:∃ r_,s.b.rd s.c.PC=r_:=⟨_,rfl⟩;obtain⟨v,hv⟩:∃ r_,(s.c.X+255) % 256=r_:=⟨_,rfl⟩;have vb:v < 256:=dQ;have O:(⟨{ s.c with X:=v,N:=bit7 (v:Nat),Z:=isZ (v:Nat) },b1⟩:St)=s':=iQf;have K:=j_ O;clear hs O;have Hb1:=j_ hb1;have Hv:=j_ hv;clear hb1 hv;go_enter Tryz.func162,Tryz.ntmps162;go_wp2_with fail;refine (p.idle dQ (s':=⟨s.c,b1⟩) gQc).mono ?_;rintro e w1 ⟨rfl,p2⟩;obtain⟨g0,g1,g2,g3,g4,g5,g6,g7,g8,g9,g10,r,j,l,B,E⟩:=p2.cells;rw[hk] at j;rw[hm] at l;go_wp2_with fail;refine (p2.moved_DEX hk).mono ?_;rintro e w3 ⟨rfl,rfl⟩;dsimp only;rw[Hv.out];go_wp2_with fail;have p4:=p2.setX _ (v) rfl vb rfl;clear g0 g1 g2 g3 g4 g5 g6 g7 g8 g9 g10 r j l B E;clear p2;generalize w1.setCell ⟨P,1,none⟩ (.int .u8 ((v:Nat):Int))=W5 at p4 ⊢;obtain⟨g0,g1,g2,g3,g4,g5,g6,g7,g8,g9,g10,r,j,l,B,E⟩:=p4.cells;rw[hk] at j;go_wp2_with fail;clear g0 g1 g2 g3 g4 g5 g6 g7 g8 g9 g10 r j l B E;go_wp2_with fail;have H:=p4.drew;have g1:=H.cells.2.1;have g5:=H.cells.2.2.2.2.2.1;have g6:=H.cells.2.2.2.2.2.2.1;have g7:=H.cells.2.2.2.2.2.2.2.1;have g8:=H.cells.2.2.2.2.2.2.2.2.1;have g9:=H.cells.2.2.2.2.2.2.2.2.2.1;have g10:=H.cells.2.2.2.2.2.2.2.2.2.2.1;have E:=H.cells.2.2.2.2.2.2.2.2.2.2.2.2.2.2.2;go_region_with (go_at_call 176;refine (iBA _ _ _ _ _ _ _ _ dQ dQ).mono ?_;rintro e w7 ⟨rfl,d8⟩;(have J:=H.below d8);clear g1 g5 g6 g7 g8 g9 g10 E;(have g1:=J.cells.2.1);(have g5:=J.cells.2.2.2.2.2.1);(have g6:=J.cells.2.2.2.2.2.2.1);(have g7:=J.cells.2.2.2.2.2.2.2.1);(have g8:=J.cells.2.2.2.2.2.2.2.2.1);(have g9:=J.cells.2.2.2.2.2.2.2.2.2.1);(have g10:=J.cells.2.2.2.2.2.2.2.2.2.2.1);(have E:=J.cells.2.2.2.2.2.2.2.2.2.2.2.2.2.2.2));all_goals
  go_wp2
  (try simp only[Exit.inBlock,Exit.then])
  first|refine bodyPost_ret (results_none rfl _ _ _) rfl ?_|refine bodyPost_end (results_none rfl _ _ _) rfl ?_
  refine⟨rfl,?_⟩;exact J.flags _ _ _ _ _ _ K.out
theorem Play.implied_NOP {F:Nat->Prop} {w W:World} {P:Nat} {o:Option Nat} {k:OpK} {s:St} {N:Nat} (p:Play F w W P o k s N) (hk:k.nm=⟨#[78,79,80]⟩) (hm:k.md=0) (hN:N<=88) {s':St} (hs:⟨impL s.c [78,79,80] 0,s.b.rd s.c.PC⟩=s') :
  Calls Tryz.prog 162 #[.pointer (some ⟨P,0,none⟩)] W fun e w'=>e=.returned (.tuple #[])/\Play F w w' P o k s' (N+1):=by
 obtain⟨Q,U,hY,T,R⟩:=p.pl.ok;obtain⟨b1,hb1⟩:∃ r_,s.b.rd s.c.PC=r_:=⟨_,rfl⟩;have O:(⟨flagL s.c [78,79,80],b1⟩:St)=s':=wQd;have K:=j_ O;clear hs O;have Hb1:=j_ hb1;clear hb1;go_enter Tryz.func162,Tryz.ntmps162;go_wp2_with fail;refine (p.idle dQ (s':=⟨s.c,b1⟩) gQc).mono ?_;rintro e w1 ⟨rfl,p2⟩;obtain⟨g0,g1,g2,g3,g4,g5,g6,g7,g8,g9,g10,r,j,l,B,E⟩:=p2.cells;rw[hk] at j;rw[hm] at l;go_wp2_with fail;refine (p2.turnFlag_NOP hk dQ K.out).mono ?_;rintro e w3 ⟨rfl,p4⟩;clear g0 g1 g2 g3 g4 g5 g6 g7 g8 g9 g10 r j l B E;clear p2;go_wp2
 (try simp only[Exit.inBlock,Exit.then])
 first|refine bodyPost_ret (results_none rfl _ _ _) rfl ?_|refine bodyPost_end (results_none rfl _ _ _) rfl ?_
 refine⟨rfl,?_⟩;exact p4
theorem Play.implied_TXS {F:Nat->Prop} {w W:World} {P:Nat} {o:Option Nat} {k:OpK} {s:St} {N:Nat} (p:Play F w W P o k s N) (hk:k.nm=⟨#[84,88,83]⟩) (hm:k.md=0) (hN:N<=88) {s':St} (hs:⟨impL s.c [84,88,83] 0,s.b.rd s.c.PC⟩=s') :
  Calls Tryz.prog 162 #[.pointer (some ⟨P,0,none⟩)] W fun e w'=>e=.returned (.tuple #[])/\Play F w w' P o k s' (N+1):=by
 obtain⟨Q,U,hY,T,R⟩:=p.pl.ok;obtain⟨b1,hb1⟩:∃ r_,s.b.rd s.c.PC=r_:=⟨_,rfl⟩;have vb:s.c.X < 256:=dQ;have O:(⟨{ s.c with S:=s.c.X },b1⟩:St)=s':=kQd;have K:=j_ O;clear hs O;have Hb1:=j_ hb1;clear hb1;go_enter Tryz.func162,Tryz.ntmps162;go_wp2_with fail;refine (p.idle dQ (s':=⟨s.c,b1⟩) gQc).mono ?_;rintro e w1 ⟨rfl,p2⟩;obtain⟨g0,g1,g2,g3,g4,g5,g6,g7,g8,g9,g10,r,j,l,B,E⟩:=p2.cells;rw[hk] at j;rw[hm] at l;go_wp2_with fail;refine (p2.moved_TXS hk).mono ?_;rintro e w3 ⟨rfl,rfl⟩;go_wp2_with fail;have p4:=p2.setS _ (s.c.X) rfl vb rfl;clear g0 g1 g2 g3 g4 g5 g6 g7 g8 g9 g10 r j l B E;clear p2;generalize w1.setCell ⟨P,3,none⟩ (.int .u8 ((s.c.X:Nat):Int))=W5 at p4 ⊢;go_wp2
 (try simp only[Exit.inBlock,Exit.then])
 first|refine bodyPost_ret (results_none rfl _ _ _) rfl ?_|refine bodyPost_end (results_none rfl _ _ _) rfl ?_
 refine⟨rfl,?_⟩;exact (by rw[<-K.out];exact p4)
theorem Play.implied_TSX {F:Nat->Prop} {w W:World} {P:Nat} {o:Option Nat} {k:OpK} {s:St} {N:Nat} (p:Play F w W P o k s N) (hk:k.nm=⟨#[84,83,88]⟩) (hm:k.md=0) (hN:N<=88) {s':St} (hs:⟨impL s.c [84,83,88] 0,s.b.rd s.c.PC⟩=s') :
  Calls Tryz.prog 162 #[.pointer (some ⟨P,0,none⟩)] W fun e w'=>e=.returned (.tuple #[])/\Play F w w' P o k s' (N+1):=by
 obtain⟨Q,U,hY,T,R⟩:=p.pl.ok;obtain⟨b1,hb1⟩:∃ r_,s.b.rd s.c.PC=r_:=⟨_,rfl⟩;have vb:s.c.S < 256:=dQ;have O:(⟨{ s.c with X:=s.c.S,N:=bit7 (s.c.S:Nat),Z:=isZ (s.c.S:Nat) },b1⟩:St)=s':=kQd;have K:=j_ O;clear hs O;have Hb1:=j_ hb1;clear hb1;go_enter Tryz.func162,Tryz.ntmps162;go_wp2_with fail;refine (p.idle dQ (s':=⟨s.c,b1⟩) gQc).mono ?_;rintro e w1 ⟨rfl,p2⟩;obtain⟨g0,g1,g2,g3,g4,g5,g6,g7,g8,g9,g10,r,j,l,B,E⟩:=p2.cells;rw[hk] at j;rw[hm] at l;go_wp2_with fail;refine (p2.moved_TSX hk).mono ?_;rintro e w3 ⟨rfl,rfl⟩;go_wp2_with fail;have p4:=p2.setX _ (s.c.S) rfl vb rfl;clear g0 g1 g2 g3 g4 g5 g6 g7 g8 g9 g10 r j l B E;clear p2;generalize w1.setCell ⟨P,1,none⟩ (.int .u8 ((s.c.S:Nat):Int))=W5 at p4 ⊢;obtain⟨g0,g1,g2,g3,g4,g5,g6,g7,g8,g9,g10,r,j,l,B,E⟩:=p4.cells;rw[hk] at j;go_wp2_with fail;clear g0 g1 g2 g3 g4 g5 g6 g7 g8 g9 g10 r j l B E;go_wp2_with fail;have H:=p4.drew;have g1:=H.cells.2.1;have g5:=H.cells.2.2.2.2.2.1;have g6:=H.cells.2.2.2.2.2.2.1;have g7:=H.cells.2.2.2.2.2.2.2.1;have g8:=H.cells.2.2.2.2.2.2.2.2.1;have g9:=H.cells.2.2.2.2.2.2.2.2.2.1;have g10:=H.cells.2.2.2.2.2.2.2.2.2.2.1;have E:=H.cells.2.2.2.2.2.2.2.2.2.2.2.2.2.2.2;go_region_with (go_at_call 176;refine (iBA _ _ _ _ _ _ _ _ dQ dQ).mono ?_;rintro e w7 ⟨rfl,d8⟩;(have J:=H.below d8);clear g1 g5 g6 g7 g8 g9 g10 E;(have g1:=J.cells.2.1);(have g5:=J.cells.2.2.2.2.2.1);(have g6:=J.cells.2.2.2.2.2.2.1);(have g7:=J.cells.2.2.2.2.2.2.2.1);(have g8:=J.cells.2.2.2.2.2.2.2.2.1);(have g9:=J.cells.2.2.2.2.2.2.2.2.2.1);(have g10:=J.cells.2.2.2.2.2.2.2.2.2.2.1);(have E:=J.cells.2.2.2.2.2.2.2.2.2.2.2.2.2.2.2));all_goals
  go_wp2
  (try simp only[Exit.inBlock,Exit.then])
  first|refine bodyPost_ret (results_none rfl _ _ _) rfl ?_|refine bodyPost_end (results_none rfl _ _ _) rfl ?_
  refine⟨rfl,?_⟩;exact J.flags _ _ _ _ _ _ K.out
theorem Play.implied_DEY {F:Nat->Prop} {w W:World} {P:Nat} {o:Option Nat} {k:OpK} {s:St} {N:Nat} (p:Play F w W P o k s N) (hk:k.nm=⟨#[68,69,89]⟩) (hm:k.md=0) (hN:N<=88) {s':St} (hs:⟨impL s.c [68,69,89] 0,s.b.rd s.c.PC⟩=s') :
  Calls Tryz.prog 162 #[.pointer (some ⟨P,0,none⟩)] W fun e w'=>e=.returned (.tuple #[])/\Play F w w' P o k s' (N+1):=by
 obtain⟨Q,U,hY,T,R⟩:=p.pl.ok;obtain⟨b1,hb1⟩:∃ r_,s.b.rd s.c.PC=r_:=⟨_,rfl⟩;obtain⟨v,hv⟩:∃ r_,(s.c.Y+255) % 256=r_:=⟨_,rfl⟩;have vb:v < 256:=dQ;have O:(⟨{ s.c with Y:=v,N:=bit7 (v:Nat),Z:=isZ (v:Nat) },b1⟩:St)=s':=iQf;have K:=j_ O;clear hs O;have Hb1:=j_ hb1;have Hv:=j_ hv;clear hb1 hv;go_enter Tryz.func162,Tryz.ntmps162;go_wp2_with fail;refine (p.idle dQ (s':=⟨s.c,b1⟩) gQc).mono ?_;rintro e w1 ⟨rfl,p2⟩;obtain⟨g0,g1,g2,g3,g4,g5,g6,g7,g8,g9,g10,r,j,l,B,E⟩:=p2.cells;rw[hk] at j;rw[hm] at l;go_wp2_with fail;refine (p2.moved_DEY hk).mono ?_;rintro e w3 ⟨rfl,rfl⟩;dsimp only;rw[Hv.out];go_wp2_with fail;have p4:=p2.setY _ (v) rfl vb rfl;clear g0 g1 g2 g3 g4 g5 g6 g7 g8 g9 g10 r j l B E;clear p2;generalize w1.setCell ⟨P,2,none⟩ (.int .u8 ((v:Nat):Int))=W5 at p4 ⊢;obtain⟨g0,g1,g2,g3,g4,g5,g6,g7,g8,g9,g10,r,j,l,B,E⟩:=p4.cells;rw[hk] at j;go_wp2_with fail;clear g0 g1 g2 g3 g4 g5 g6 g7 g8 g9 g10 r j l B E;go_wp2_with fail;have H:=p4.drew;have g2:=H.cells.2.2.1;have g5:=H.cells.2.2.2.2.2.1;have g6:=H.cells.2.2.2.2.2.2.1;have g7:=H.cells.2.2.2.2.2.2.2.1;have g8:=H.cells.2.2.2.2.2.2.2.2.1;have g9:=H.cells.2.2.2.2.2.2.2.2.2.1;have g10:=H.cells.2.2.2.2.2.2.2.2.2.2.1;have E:=H.cells.2.2.2.2.2.2.2.2.2.2.2.2.2.2.2;go_region_with (go_at_call 176;refine (iBA _ _ _ _ _ _ _ _ dQ dQ).mono ?_;rintro e w7 ⟨rfl,d8⟩;(have J:=H.below d8);clear g2 g5 g6 g7 g8 g9 g10 E;(have g2:=J.cells.2.2.1);(have g5:=J.cells.2.2.2.2.2.1);(have g6:=J.cells.2.2.2.2.2.2.1);(have g7:=J.cells.2.2.2.2.2.2.2.1);(have g8:=J.cells.2.2.2.2.2.2.2.2.1);(have g9:=J.cells.2.2.2.2.2.2.2.2.2.1);(have g10:=J.cells.2.2.2.2.2.2.2.2.2.2.1);(have E:=J.cells.2.2.2.2.2.2.2.2.2.2.2.2.2.2.2));all_goals
  go_wp2
  (try simp only[Exit.inBlock,Exit.then])
  first|refine bodyPost_ret (results_none rfl _ _ _) rfl ?_|refine bodyPost_end (results_none rfl _ _ _) rfl ?_
  refine⟨rfl,?_⟩;exact J.flags _ _ _ _ _ _ K.out
theorem Play.implied_TAY {F:Nat->Prop} {w W:World} {P:Nat} {o:Option Nat} {k:OpK} {s:St} {N:Nat} (p:Play F w W P o k s N) (hk:k.nm=⟨#[84,65,89]⟩) (hm:k.md=0) (hN:N<=88) {s':St} (hs:⟨impL s.c [84,65,89] 0,s.b.rd s.c.PC⟩=s') :
  Calls Tryz.prog 162 #[.pointer (some ⟨P,0,none⟩)] W fun e w'=>e=.returned (.tuple #[])/\Play F w w' P o k s' (N+1):=by
 obtain⟨Q,U,hY,T,R⟩:=p.pl.ok;obtain⟨b1,hb1⟩:∃ r_,s.b.rd s.c.PC=r_:=⟨_,rfl⟩;have vb:s.c.A < 256:=dQ;have O:(⟨{ s.c with Y:=s.c.A,N:=bit7 (s.c.A:Nat),Z:=isZ (s.c.A:Nat) },b1⟩:St)=s':=kQd;have K:=j_ O;clear hs O;have Hb1:=j_ hb1;clear hb1;go_enter Tryz.func162,Tryz.ntmps162;go_wp2_with fail;refine (p.idle dQ (s':=⟨s.c,b1⟩) gQc).mono ?_;rintro e w1 ⟨rfl,p2⟩;obtain⟨g0,g1,g2,g3,g4,g5,g6,g7,g8,g9,g10,r,j,l,B,E⟩:=p2.cells;rw[hk] at j;rw[hm] at l;go_wp2_with fail;refine (p2.moved_TAY hk).mono ?_;rintro e w3 ⟨rfl,rfl⟩;go_wp2_with fail;have p4:=p2.setY _ (s.c.A) rfl vb rfl;clear g0 g1 g2 g3 g4 g5 g6 g7 g8 g9 g10 r j l B E;clear p2;generalize w1.setCell ⟨P,2,none⟩ (.int .u8 ((s.c.A:Nat):Int))=W5 at p4 ⊢;obtain⟨g0,g1,g2,g3,g4,g5,g6,g7,g8,g9,g10,r,j,l,B,E⟩:=p4.cells;rw[hk] at j;go_wp2_with fail;clear g0 g1 g2 g3 g4 g5 g6 g7 g8 g9 g10 r j l B E;go_wp2_with fail;have H:=p4.drew;have g2:=H.cells.2.2.1;have g5:=H.cells.2.2.2.2.2.1;have g6:=H.cells.2.2.2.2.2.2.1;have g7:=H.cells.2.2.2.2.2.2.2.1;have g8:=H.cells.2.2.2.2.2.2.2.2.1;have g9:=H.cells.2.2.2.2.2.2.2.2.2.1;have g10:=H.cells.2.2.2.2.2.2.2.2.2.2.1;have E:=H.cells.2.2.2.2.2.2.2.2.2.2.2.2.2.2.2;go_region_with (go_at_call 176;refine (iBA _ _ _ _ _ _ _ _ dQ dQ).mono ?_;rintro e w7 ⟨rfl,d8⟩;(have J:=H.below d8);clear g2 g5 g6 g7 g8 g9 g10 E;(have g2:=J.cells.2.2.1);(have g5:=J.cells.2.2.2.2.2.1);(have g6:=J.cells.2.2.2.2.2.2.1);(have g7:=J.cells.2.2.2.2.2.2.2.1);(have g8:=J.cells.2.2.2.2.2.2.2.2.1);(have g9:=J.cells.2.2.2.2.2.2.2.2.2.1);(have g10:=J.cells.2.2.2.2.2.2.2.2.2.2.1);(have E:=J.cells.2.2.2.2.2.2.2.2.2.2.2.2.2.2.2));all_goals
  go_wp2
  (try simp only[Exit.inBlock,Exit.then])
  first|refine bodyPost_ret (results_none rfl _ _ _) rfl ?_|refine bodyPost_end (results_none rfl _ _ _) rfl ?_
  refine⟨rfl,?_⟩;exact J.flags _ _ _ _ _ _ K.out
theorem Play.implied_INY {F:Nat->Prop} {w W:World} {P:Nat} {o:Option Nat} {k:OpK} {s:St} {N:Nat} (p:Play F w W P o k s N) (hk:k.nm=⟨#[73,78,89]⟩) (hm:k.md=0) (hN:N<=88) {s':St} (hs:⟨impL s.c [73,78,89] 0,s.b.rd s.c.PC⟩=s') :
  Calls Tryz.prog 162 #[.pointer (some ⟨P,0,none⟩)] W fun e w'=>e=.returned (.tuple #[])/\Play F w w' P o k s' (N+1):=by
 obtain⟨Q,U,hY,T,R⟩:=p.pl.ok;obtain⟨b1,hb1⟩:∃ r_,s.b.rd s.c.PC=r_:=⟨_,rfl⟩;obtain⟨v,hv⟩:∃ r_,(s.c.Y+1) % 256=r_:=⟨_,rfl⟩;have vb:v < 256:=dQ;have O:(⟨{ s.c with Y:=v,N:=bit7 (v:Nat),Z:=isZ (v:Nat) },b1⟩:St)=s':=iQf;have K:=j_ O;clear hs O;have Hb1:=j_ hb1;have Hv:=j_ hv;clear hb1 hv;go_enter Tryz.func162,Tryz.ntmps162;go_wp2_with fail;refine (p.idle dQ (s':=⟨s.c,b1⟩) gQc).mono ?_;rintro e w1 ⟨rfl,p2⟩;obtain⟨g0,g1,g2,g3,g4,g5,g6,g7,g8,g9,g10,r,j,l,B,E⟩:=p2.cells;rw[hk] at j;rw[hm] at l;go_wp2_with fail;refine (p2.moved_INY hk).mono ?_;rintro e w3 ⟨rfl,rfl⟩;dsimp only;rw[Hv.out];go_wp2_with fail;have p4:=p2.setY _ (v) rfl vb rfl;clear g0 g1 g2 g3 g4 g5 g6 g7 g8 g9 g10 r j l B E;clear p2;generalize w1.setCell ⟨P,2,none⟩ (.int .u8 ((v:Nat):Int))=W5 at p4 ⊢;obtain⟨g0,g1,g2,g3,g4,g5,g6,g7,g8,g9,g10,r,j,l,B,E⟩:=p4.cells;rw[hk] at j;go_wp2_with fail;clear g0 g1 g2 g3 g4 g5 g6 g7 g8 g9 g10 r j l B E;go_wp2_with fail;have H:=p4.drew;have g2:=H.cells.2.2.1;have g5:=H.cells.2.2.2.2.2.1;have g6:=H.cells.2.2.2.2.2.2.1;have g7:=H.cells.2.2.2.2.2.2.2.1;have g8:=H.cells.2.2.2.2.2.2.2.2.1;have g9:=H.cells.2.2.2.2.2.2.2.2.2.1;have g10:=H.cells.2.2.2.2.2.2.2.2.2.2.1;have E:=H.cells.2.2.2.2.2.2.2.2.2.2.2.2.2.2.2;go_region_with (go_at_call 176;refine (iBA _ _ _ _ _ _ _ _ dQ dQ).mono ?_;rintro e w7 ⟨rfl,d8⟩;(have J:=H.below d8);clear g2 g5 g6 g7 g8 g9 g10 E;(have g2:=J.cells.2.2.1);(have g5:=J.cells.2.2.2.2.2.1);(have g6:=J.cells.2.2.2.2.2.2.1);(have g7:=J.cells.2.2.2.2.2.2.2.1);(have g8:=J.cells.2.2.2.2.2.2.2.2.1);(have g9:=J.cells.2.2.2.2.2.2.2.2.2.1);(have g10:=J.cells.2.2.2.2.2.2.2.2.2.2.1);(have E:=J.cells.2.2.2.2.2.2.2.2.2.2.2.2.2.2.2));all_goals
  go_wp2
  (try simp only[Exit.inBlock,Exit.then])
  first|refine bodyPost_ret (results_none rfl _ _ _) rfl ?_|refine bodyPost_end (results_none rfl _ _ _) rfl ?_
  refine⟨rfl,?_⟩;exact J.flags _ _ _ _ _ _ K.out
theorem Play.remade_ASL {F:Nat->Prop} {w W:World} {P:Nat} {o:Option Nat} {k:OpK} {s:St} {N:Nat} (p:Play F w W P o k s N) (hk:k.nm=⟨#[65,83,76]⟩) (m:Nat) (hm:m < 256) (hN:N<=90) {z:Nat} {s':St} (hz:chgB [65,83,76] m s.c.C=z) (hs:⟨s.c.chg [65,83,76] m,s.b⟩=s') :
  Calls Tryz.prog 174 #[.pointer (some ⟨P,0,none⟩),.int .u8 (m:Int)] W fun e w'=>e=.returned (.int .u8 (z:Int))/\Play F w w' P o k s' (N+0):=by
 obtain⟨Q,U,hY,T,R⟩:=p.pl.ok;obtain⟨x,hx⟩:=dDA (zBA (m:Int) true false dQ dQ).1;have a1:x < 256:=by have:=(zBA (m:Int) true false dQ dQ).2;omega
 have a0:x=z:=tQi;subst a0;clear hz;have Hx:=j_ hx;clear hx;go_enter Tryz.func174,Tryz.ntmps174;obtain⟨g0,g1,g2,g3,g4,g5,g6,g7,g8,g9,g10,r,j,l,B,E⟩:=p.cells;rw[hk] at j;go_wp2_with fail;refine (rQA _ _ _ _ _ _ _ dQ dQ _).mono ?_;rintro e w1 ⟨rfl,d2⟩;have p3:=p.below d2;clear g0 g1 g2 g3 g4 g5 g6 g7 g8 g9 g10 r j l B E;clear d2;rw[Hx.out];obtain⟨g0,g1,g2,g3,g4,g5,g6,g7,g8,g9,g10,r,j,l,B,E⟩:=p3.cells;rw[hk] at j;go_wp2;go_ret;refine⟨rfl,?_⟩;exact p3.flags _ _ _ _ _ _ tQd
theorem Play.remade_LSR {F:Nat->Prop} {w W:World} {P:Nat} {o:Option Nat} {k:OpK} {s:St} {N:Nat} (p:Play F w W P o k s N) (hk:k.nm=⟨#[76,83,82]⟩) (m:Nat) (hm:m < 256) (hN:N<=90) {z:Nat} {s':St} (hz:chgB [76,83,82] m s.c.C=z) (hs:⟨s.c.chg [76,83,82] m,s.b⟩=s') :
  Calls Tryz.prog 174 #[.pointer (some ⟨P,0,none⟩),.int .u8 (m:Int)] W fun e w'=>e=.returned (.int .u8 (z:Int))/\Play F w w' P o k s' (N+0):=by
 obtain⟨Q,U,hY,T,R⟩:=p.pl.ok;obtain⟨x,hx⟩:=dDA (zBA (m:Int) false false dQ dQ).1;have a1:x < 256:=by have:=(zBA (m:Int) false false dQ dQ).2;omega
 have a0:x=z:=tQi;subst a0;clear hz;have Hx:=j_ hx;clear hx;go_enter Tryz.func174,Tryz.ntmps174;obtain⟨g0,g1,g2,g3,g4,g5,g6,g7,g8,g9,g10,r,j,l,B,E⟩:=p.cells;rw[hk] at j;go_wp2_with fail;refine (tQA _ _ _ _ _ _ _ dQ dQ _).mono ?_;rintro e w1 ⟨rfl,d2⟩;have p3:=p.below d2;clear g0 g1 g2 g3 g4 g5 g6 g7 g8 g9 g10 r j l B E;clear d2;rw[Hx.out];obtain⟨g0,g1,g2,g3,g4,g5,g6,g7,g8,g9,g10,r,j,l,B,E⟩:=p3.cells;rw[hk] at j;go_wp2;go_ret;refine⟨rfl,?_⟩;exact p3.flags _ _ _ _ _ _ tQd
theorem Play.remade_ROL {F:Nat->Prop} {w W:World} {P:Nat} {o:Option Nat} {k:OpK} {s:St} {N:Nat} (p:Play F w W P o k s N) (hk:k.nm=⟨#[82,79,76]⟩) (m:Nat) (hm:m < 256) (hN:N<=90) {z:Nat} {s':St} (hz:chgB [82,79,76] m s.c.C=z) (hs:⟨s.c.chg [82,79,76] m,s.b⟩=s') :
  Calls Tryz.prog 174 #[.pointer (some ⟨P,0,none⟩),.int .u8 (m:Int)] W fun e w'=>e=.returned (.int .u8 (z:Int))/\Play F w w' P o k s' (N+0):=by
 obtain⟨Q,U,hY,T,R⟩:=p.pl.ok;obtain⟨x,hx⟩:=dDA (zBA (m:Int) true s.c.C dQ dQ).1;have a1:x < 256:=by have:=(zBA (m:Int) true s.c.C dQ dQ).2;omega
 have a0:x=z:=tQi;subst a0;clear hz;have Hx:=j_ hx;clear hx;go_enter Tryz.func174,Tryz.ntmps174;obtain⟨g0,g1,g2,g3,g4,g5,g6,g7,g8,g9,g10,r,j,l,B,E⟩:=p.cells;rw[hk] at j;go_wp2_with fail;refine (fRA _ _ _ _ _ _ _ dQ dQ _).mono ?_;rintro e w1 ⟨rfl,d2⟩;have p3:=p.below d2;clear g0 g1 g2 g3 g4 g5 g6 g7 g8 g9 g10 r j l B E;clear d2;rw[Hx.out];obtain⟨g0,g1,g2,g3,g4,g5,g6,g7,g8,g9,g10,r,j,l,B,E⟩:=p3.cells;rw[hk] at j;go_wp2;go_ret;refine⟨rfl,?_⟩;exact p3.flags _ _ _ _ _ _ tQd
theorem Play.remade_ROR {F:Nat->Prop} {w W:World} {P:Nat} {o:Option Nat} {k:OpK} {s:St} {N:Nat} (p:Play F w W P o k s N) (hk:k.nm=⟨#[82,79,82]⟩) (m:Nat) (hm:m < 256) (hN:N<=90) {z:Nat} {s':St} (hz:chgB [82,79,82] m s.c.C=z) (hs:⟨s.c.chg [82,79,82] m,s.b⟩=s') :
  Calls Tryz.prog 174 #[.pointer (some ⟨P,0,none⟩),.int .u8 (m:Int)] W fun e w'=>e=.returned (.int .u8 (z:Int))/\Play F w w' P o k s' (N+0):=by
 obtain⟨Q,U,hY,T,R⟩:=p.pl.ok;obtain⟨x,hx⟩:=dDA (zBA (m:Int) false s.c.C dQ dQ).1;have a1:x < 256:=by have:=(zBA (m:Int) false s.c.C dQ dQ).2;omega
 have a0:x=z:=tQi;subst a0;clear hz;have Hx:=j_ hx;clear hx;go_enter Tryz.func174,Tryz.ntmps174;obtain⟨g0,g1,g2,g3,g4,g5,g6,g7,g8,g9,g10,r,j,l,B,E⟩:=p.cells;rw[hk] at j;go_wp2_with fail;refine (gRA _ _ _ _ _ _ _ dQ dQ _).mono ?_;rintro e w1 ⟨rfl,d2⟩;have p3:=p.below d2;clear g0 g1 g2 g3 g4 g5 g6 g7 g8 g9 g10 r j l B E;clear d2;rw[Hx.out];obtain⟨g0,g1,g2,g3,g4,g5,g6,g7,g8,g9,g10,r,j,l,B,E⟩:=p3.cells;rw[hk] at j;go_wp2;go_ret;refine⟨rfl,?_⟩;exact p3.flags _ _ _ _ _ _ tQd
theorem Play.remade_INC {F:Nat->Prop} {w W:World} {P:Nat} {o:Option Nat} {k:OpK} {s:St} {N:Nat} (p:Play F w W P o k s N) (hk:k.nm=⟨#[73,78,67]⟩) (m:Nat) (hm:m < 256) (hN:N<=90) {z:Nat} {s':St} (hz:chgB [73,78,67] m s.c.C=z) (hs:⟨s.c.chg [73,78,67] m,s.b⟩=s') :
  Calls Tryz.prog 174 #[.pointer (some ⟨P,0,none⟩),.int .u8 (m:Int)] W fun e w'=>e=.returned (.int .u8 (z:Int))/\Play F w w' P o k s' (N+0):=by
 obtain⟨Q,U,hY,T,R⟩:=p.pl.ok;have hx:(m+1) % 256=z:=by rw[<-hz];simp[chgB]
 have a2:z < 256:=dQ;have e3:IntKind.u8.wrap ((m:Int)+1)=(z:Int):=dQd;clear hz;have Hx:=j_ hx;clear hx;go_enter Tryz.func174,Tryz.ntmps174;obtain⟨g0,g1,g2,g3,g4,g5,g6,g7,g8,g9,g10,r,j,l,B,E⟩:=p.cells;rw[hk] at j;go_wp2_with fail;refine (iBA _ _ _ _ _ _ _ _ dQ dQ).mono ?_;rintro e w1 ⟨rfl,d2⟩;have p3:=p.below d2;clear g0 g1 g2 g3 g4 g5 g6 g7 g8 g9 g10 r j l B E;clear d2;obtain⟨g0,g1,g2,g3,g4,g5,g6,g7,g8,g9,g10,r,j,l,B,E⟩:=p3.cells;rw[hk] at j;go_wp2;go_ret;refine⟨rfl,?_⟩;exact p3.flags _ _ _ _ _ _ tQd
theorem Play.remade_DEC {F:Nat->Prop} {w W:World} {P:Nat} {o:Option Nat} {k:OpK} {s:St} {N:Nat} (p:Play F w W P o k s N) (hk:k.nm=⟨#[68,69,67]⟩) (m:Nat) (hm:m < 256) (hN:N<=90) {z:Nat} {s':St} (hz:chgB [68,69,67] m s.c.C=z) (hs:⟨s.c.chg [68,69,67] m,s.b⟩=s') :
  Calls Tryz.prog 174 #[.pointer (some ⟨P,0,none⟩),.int .u8 (m:Int)] W fun e w'=>e=.returned (.int .u8 (z:Int))/\Play F w w' P o k s' (N+0):=by
 obtain⟨Q,U,hY,T,R⟩:=p.pl.ok;have hx:(m+255) % 256=z:=by rw[<-hz];simp[chgB]
 have a2:z < 256:=dQ;have e3:IntKind.u8.wrap ((m:Int) - 1)=(z:Int):=dQd;clear hz;have Hx:=j_ hx;clear hx;go_enter Tryz.func174,Tryz.ntmps174;obtain⟨g0,g1,g2,g3,g4,g5,g6,g7,g8,g9,g10,r,j,l,B,E⟩:=p.cells;rw[hk] at j;go_wp2_with fail;refine (iBA _ _ _ _ _ _ _ _ dQ dQ).mono ?_;rintro e w1 ⟨rfl,d2⟩;have p3:=p.below d2;clear g0 g1 g2 g3 g4 g5 g6 g7 g8 g9 g10 r j l B E;clear d2;obtain⟨g0,g1,g2,g3,g4,g5,g6,g7,g8,g9,g10,r,j,l,B,E⟩:=p3.cells;rw[hk] at j;go_wp2;go_ret;refine⟨rfl,?_⟩;exact p3.flags _ _ _ _ _ _ tQd

end Go.Proofs.YtckfdbjjjgfbfaaGreat
