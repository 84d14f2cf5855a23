import Derived.Test.YtckfdbjjjgfbfaaGreatRPhr
import Derived.WalkKit
import Derived.Lib.Hide
import Derived.Test.YtckfdbjjjgfbfaaGreatRAluA
set_option linter.unusedVariables false
set_option linter.unusedSimpArgs false
set_option maxRecDepth 100000
namespace Go.Proofs.YtckfdbjjjgfbfaaGreat
open Go.RowKit
theorem row8 (W:World) (v:Nat->Value) (t:TypeId) (r:Nat) (hr:r < 8) {B:Nat} (hB:B=W.heap.size):(W.alloc (.cells #[v 0,v 1,v 2,v 3,v 4,v 5,v 6,v 7] t)).cell? ⟨B,r,none⟩=some (v r):=by
 subst hB;rw[World.cell?_alloc_at _ _ _ _ rfl];rcases r with _|_|_|_|_|_|_|_|r<;>first|rfl|omega
theorem vQA (r p:Nat) (hr:r < 8) (hp:p < 8) (w:World) (K:¬ (r=4/\p=2)) :
  Calls Tryz.prog 131 #[.int .i64 r,.int .i64 p] w fun e w'=>e=.returned (.agg #[.string (opTx (1+r)),.int .i64 (rGA p)])/\Below w.heap.size w w':=by
 have l:(((w.alloc (.cells #[.string ⟨#[]⟩,.int .i64 0] 149)).alloc (.cells #[.string ⟨#[79,82,65]⟩,.string ⟨#[65,78,68]⟩,.string ⟨#[69,79,82]⟩,.string ⟨#[65,68,67]⟩,.string ⟨#[83,84,65]⟩,.string ⟨#[76,68,65]⟩,.string ⟨#[67,77,80]⟩,.string ⟨#[83,66,67]⟩] 9)).alloc (.cells #[.int .i64 10,.int .i64 3,.int .i64 2,.int .i64 6,.int .i64 11,.int .i64 4,.int .i64 8,.int .i64 7] 3)).cell? ⟨w.heap.size+1,r,none⟩=some (.string (opTx (1+r))):=by
  rw[World.cell?_alloc_past _ _ _ xQ];exact row8 (w.alloc (.cells #[.string ⟨#[]⟩,.int .i64 0] 149)) (fun r=>.string (opTx (1+r))) 9 r hr xQ
 have O:(((w.alloc (.cells #[.string ⟨#[]⟩,.int .i64 0] 149)).alloc (.cells #[.string ⟨#[79,82,65]⟩,.string ⟨#[65,78,68]⟩,.string ⟨#[69,79,82]⟩,.string ⟨#[65,68,67]⟩,.string ⟨#[83,84,65]⟩,.string ⟨#[76,68,65]⟩,.string ⟨#[67,77,80]⟩,.string ⟨#[83,66,67]⟩] 9)).alloc (.cells #[.int .i64 10,.int .i64 3,.int .i64 2,.int .i64 6,.int .i64 11,.int .i64 4,.int .i64 8,.int .i64 7] 3)).cell? ⟨w.heap.size+1+1,p,none⟩=some (.int .i64 (rGA p)):=
  row8 ((w.alloc (.cells #[.string ⟨#[]⟩,.int .i64 0] 149)).alloc (.cells #[.string ⟨#[79,82,65]⟩,.string ⟨#[65,78,68]⟩,.string ⟨#[69,79,82]⟩,.string ⟨#[65,68,67]⟩,.string ⟨#[83,84,65]⟩,.string ⟨#[76,68,65]⟩,.string ⟨#[67,77,80]⟩,.string ⟨#[83,66,67]⟩] 9)) (fun p=>.int .i64 (rGA p)) 3 p hp xQ
 have j:0<=(r:Int)/\(r:Int) < 8:=dQ;have J:0<=(p:Int)/\(p:Int) < 8:=dQ;have H:((r:Int)==4)=false\/(((r:Int)==4)=true/\((p:Int)==2)=false):=by
  simp;omega
 clear K hr hp;rcases H with h4|⟨h4,h2⟩ <;>
 ·go_enter Tryz.func131,Tryz.ntmps131;go_wp2;go_region;go_wp2;refine bodyPost_ret (v:=.agg #[.string (opTx (1+r)),.int .i64 (rGA p)]) (by simp[results,Tryz.results131,go_sem]) rfl ⟨rfl,?_⟩;all_goals exact eQ
theorem pPA (w:World) :
  Calls Tryz.prog 131 #[.int .i64 4,.int .i64 2] w fun e w'=>e=.returned (.agg #[.string (opTx 0),.int .i64 0])/\Below w.heap.size w w':=by
 go_enter Tryz.func131,Tryz.ntmps131;go_wp2;exact bodyPost_ret (v:=.agg #[.string (opTx 0),.int .i64 0]) (by simp[results,Tryz.results131,go_sem,opTx]) rfl ⟨rfl,(Below.refl _ _).alloc xQ _⟩
theorem ySA (r p:Nat) (hr:r < 8) (hp:p < 8) (w:World) :
  Calls Tryz.prog 131 #[.int .i64 r,.int .i64 p] w fun e w'=>e=.returned (.agg #[.string (opTx (gEA r p)),.int .i64 (jHA r p)])/\Below w.heap.size w w':=by
 by_cases h:r=4/\p=2
 ·obtain⟨rfl,rfl⟩:=h;exact pPA w
 ·simp only[gEA,jHA,if_neg h];exact vQA r p hr hp w h
theorem sWA (r:Nat) (hr:r < 8) (h0:((r:Int)==4)=false) (h1:((r:Int)==5)=false) (w:World) :
  Calls Tryz.prog 132 #[.int .i64 r,.int .i64 0] w fun e w'=>e=.returned (.agg #[.string (opTx (0)),.int .i64 (0)])/\Below w.heap.size w w':=by
 have l:((w.alloc (.cells #[.string ⟨#[]⟩,.int .i64 0] 149)).alloc (.cells #[.string ⟨#[65,83,76]⟩,.string ⟨#[82,79,76]⟩,.string ⟨#[76,83,82]⟩,.string ⟨#[82,79,82]⟩,.string ⟨#[83,84,88]⟩,.string ⟨#[76,68,88]⟩,.string ⟨#[68,69,67]⟩,.string ⟨#[73,78,67]⟩] 9)).cell? ⟨w.heap.size+1,r,none⟩=some (.string (opTx (9+r))):=
  row8 (w.alloc (.cells #[.string ⟨#[]⟩,.int .i64 0] 149)) (fun r=>.string (opTx (9+r))) 9 r hr xQ
 have j:0<=(r:Int)/\(r:Int) < 8:=dQ;clear hr;go_enter Tryz.func132,Tryz.ntmps132;go_wp2;refine bodyPost_ret (v:=.agg #[.string (opTx (0)),.int .i64 (0)]) yQ rfl ⟨rfl,?_⟩;all_goals exact eQ
theorem tZA (w:World) :
  Calls Tryz.prog 132 #[.int .i64 4,.int .i64 0] w fun e w'=>e=.returned (.agg #[.string (opTx (0)),.int .i64 (0)])/\Below w.heap.size w w':=by
 go_enter Tryz.func132,Tryz.ntmps132;go_wp2;refine bodyPost_ret (v:=.agg #[.string (opTx (0)),.int .i64 (0)]) yQ rfl ⟨rfl,?_⟩;all_goals exact eQ
theorem nZA (w:World) :
  Calls Tryz.prog 132 #[.int .i64 5,.int .i64 0] w fun e w'=>e=.returned (.agg #[.string (opTx (14)),.int .i64 (2)])/\Below w.heap.size w w':=by
 go_enter Tryz.func132,Tryz.ntmps132;go_wp2;refine bodyPost_ret (v:=.agg #[.string (opTx (14)),.int .i64 (2)]) yQ rfl ⟨rfl,?_⟩;all_goals exact eQ
theorem tWA (r:Nat) (hr:r < 8) (h0:((r:Int)==4)=false) (h1:((r:Int)==5)=false) (w:World) :
  Calls Tryz.prog 132 #[.int .i64 r,.int .i64 1] w fun e w'=>e=.returned (.agg #[.string (opTx (9+r)),.int .i64 (3)])/\Below w.heap.size w w':=by
 have l:((w.alloc (.cells #[.string ⟨#[]⟩,.int .i64 0] 149)).alloc (.cells #[.string ⟨#[65,83,76]⟩,.string ⟨#[82,79,76]⟩,.string ⟨#[76,83,82]⟩,.string ⟨#[82,79,82]⟩,.string ⟨#[83,84,88]⟩,.string ⟨#[76,68,88]⟩,.string ⟨#[68,69,67]⟩,.string ⟨#[73,78,67]⟩] 9)).cell? ⟨w.heap.size+1,r,none⟩=some (.string (opTx (9+r))):=
  row8 (w.alloc (.cells #[.string ⟨#[]⟩,.int .i64 0] 149)) (fun r=>.string (opTx (9+r))) 9 r hr xQ
 have j:0<=(r:Int)/\(r:Int) < 8:=dQ;clear hr;go_enter Tryz.func132,Tryz.ntmps132;go_wp2;refine bodyPost_ret (v:=.agg #[.string (opTx (9+r)),.int .i64 (3)]) rQe rfl ⟨rfl,?_⟩;all_goals exact eQ
theorem jYA (w:World) :
  Calls Tryz.prog 132 #[.int .i64 4,.int .i64 1] w fun e w'=>e=.returned (.agg #[.string (opTx (13)),.int .i64 (3)])/\Below w.heap.size w w':=by
 go_enter Tryz.func132,Tryz.ntmps132;go_wp2;refine bodyPost_ret (v:=.agg #[.string (opTx (13)),.int .i64 (3)]) yQ rfl ⟨rfl,?_⟩;all_goals exact eQ
theorem tXA (w:World) :
  Calls Tryz.prog 132 #[.int .i64 5,.int .i64 1] w fun e w'=>e=.returned (.agg #[.string (opTx (14)),.int .i64 (3)])/\Below w.heap.size w w':=by
 go_enter Tryz.func132,Tryz.ntmps132;go_wp2;refine bodyPost_ret (v:=.agg #[.string (opTx (14)),.int .i64 (3)]) yQ rfl ⟨rfl,?_⟩;all_goals exact eQ
theorem fXA (r:Nat) (hr:r < 8) (h0:((r:Int)==4)=false) (h1:((r:Int)==5)=false) (w:World) :
  Calls Tryz.prog 132 #[.int .i64 r,.int .i64 3] w fun e w'=>e=.returned (.agg #[.string (opTx (9+r)),.int .i64 (6)])/\Below w.heap.size w w':=by
 have l:((w.alloc (.cells #[.string ⟨#[]⟩,.int .i64 0] 149)).alloc (.cells #[.string ⟨#[65,83,76]⟩,.string ⟨#[82,79,76]⟩,.string ⟨#[76,83,82]⟩,.string ⟨#[82,79,82]⟩,.string ⟨#[83,84,88]⟩,.string ⟨#[76,68,88]⟩,.string ⟨#[68,69,67]⟩,.string ⟨#[73,78,67]⟩] 9)).cell? ⟨w.heap.size+1,r,none⟩=some (.string (opTx (9+r))):=
  row8 (w.alloc (.cells #[.string ⟨#[]⟩,.int .i64 0] 149)) (fun r=>.string (opTx (9+r))) 9 r hr xQ
 have j:0<=(r:Int)/\(r:Int) < 8:=dQ;clear hr;go_enter Tryz.func132,Tryz.ntmps132;go_wp2;refine bodyPost_ret (v:=.agg #[.string (opTx (9+r)),.int .i64 (6)]) rQe rfl ⟨rfl,?_⟩;all_goals exact eQ
theorem cXA (w:World) :
  Calls Tryz.prog 132 #[.int .i64 4,.int .i64 3] w fun e w'=>e=.returned (.agg #[.string (opTx (13)),.int .i64 (6)])/\Below w.heap.size w w':=by
 go_enter Tryz.func132,Tryz.ntmps132;go_wp2;refine bodyPost_ret (v:=.agg #[.string (opTx (13)),.int .i64 (6)]) yQ rfl ⟨rfl,?_⟩;all_goals exact eQ
theorem kXA (w:World) :
  Calls Tryz.prog 132 #[.int .i64 5,.int .i64 3] w fun e w'=>e=.returned (.agg #[.string (opTx (14)),.int .i64 (6)])/\Below w.heap.size w w':=by
 go_enter Tryz.func132,Tryz.ntmps132;go_wp2;refine bodyPost_ret (v:=.agg #[.string (opTx (14)),.int .i64 (6)]) yQ rfl ⟨rfl,?_⟩;all_goals exact eQ
theorem rYA (r:Nat) (hr:r < 8) (h0:((r:Int)==4)=false) (h1:((r:Int)==5)=false) (w:World) :
  Calls Tryz.prog 132 #[.int .i64 r,.int .i64 4] w fun e w'=>e=.returned (.agg #[.string (opTx (0)),.int .i64 (0)])/\Below w.heap.size w w':=by
 have l:((w.alloc (.cells #[.string ⟨#[]⟩,.int .i64 0] 149)).alloc (.cells #[.string ⟨#[65,83,76]⟩,.string ⟨#[82,79,76]⟩,.string ⟨#[76,83,82]⟩,.string ⟨#[82,79,82]⟩,.string ⟨#[83,84,88]⟩,.string ⟨#[76,68,88]⟩,.string ⟨#[68,69,67]⟩,.string ⟨#[73,78,67]⟩] 9)).cell? ⟨w.heap.size+1,r,none⟩=some (.string (opTx (9+r))):=
  row8 (w.alloc (.cells #[.string ⟨#[]⟩,.int .i64 0] 149)) (fun r=>.string (opTx (9+r))) 9 r hr xQ
 have j:0<=(r:Int)/\(r:Int) < 8:=dQ;clear hr;go_enter Tryz.func132,Tryz.ntmps132;go_wp2;refine bodyPost_ret (v:=.agg #[.string (opTx (0)),.int .i64 (0)]) yQ rfl ⟨rfl,?_⟩;all_goals exact eQ
theorem lZA (w:World) :
  Calls Tryz.prog 132 #[.int .i64 4,.int .i64 4] w fun e w'=>e=.returned (.agg #[.string (opTx (0)),.int .i64 (0)])/\Below w.heap.size w w':=by
 go_enter Tryz.func132,Tryz.ntmps132;go_wp2;refine bodyPost_ret (v:=.agg #[.string (opTx (0)),.int .i64 (0)]) yQ rfl ⟨rfl,?_⟩;all_goals exact eQ
theorem hXA (w:World) :
  Calls Tryz.prog 132 #[.int .i64 5,.int .i64 4] w fun e w'=>e=.returned (.agg #[.string (opTx (0)),.int .i64 (0)])/\Below w.heap.size w w':=by
 go_enter Tryz.func132,Tryz.ntmps132;go_wp2;refine bodyPost_ret (v:=.agg #[.string (opTx (0)),.int .i64 (0)]) yQ rfl ⟨rfl,?_⟩;all_goals exact eQ
theorem lYA (r:Nat) (hr:r < 8) (h0:((r:Int)==4)=false) (h1:((r:Int)==5)=false) (w:World) :
  Calls Tryz.prog 132 #[.int .i64 r,.int .i64 5] w fun e w'=>e=.returned (.agg #[.string (opTx (9+r)),.int .i64 (4)])/\Below w.heap.size w w':=by
 have l:((w.alloc (.cells #[.string ⟨#[]⟩,.int .i64 0] 149)).alloc (.cells #[.string ⟨#[65,83,76]⟩,.string ⟨#[82,79,76]⟩,.string ⟨#[76,83,82]⟩,.string ⟨#[82,79,82]⟩,.string ⟨#[83,84,88]⟩,.string ⟨#[76,68,88]⟩,.string ⟨#[68,69,67]⟩,.string ⟨#[73,78,67]⟩] 9)).cell? ⟨w.heap.size+1,r,none⟩=some (.string (opTx (9+r))):=
  row8 (w.alloc (.cells #[.string ⟨#[]⟩,.int .i64 0] 149)) (fun r=>.string (opTx (9+r))) 9 r hr xQ
 have j:0<=(r:Int)/\(r:Int) < 8:=dQ;clear hr;go_enter Tryz.func132,Tryz.ntmps132;go_wp2;refine bodyPost_ret (v:=.agg #[.string (opTx (9+r)),.int .i64 (4)]) rQe rfl ⟨rfl,?_⟩;all_goals exact eQ
theorem wWA (w:World) :
  Calls Tryz.prog 132 #[.int .i64 4,.int .i64 5] w fun e w'=>e=.returned (.agg #[.string (opTx (13)),.int .i64 (5)])/\Below w.heap.size w w':=by
 go_enter Tryz.func132,Tryz.ntmps132;go_wp2;refine bodyPost_ret (v:=.agg #[.string (opTx (13)),.int .i64 (5)]) yQ rfl ⟨rfl,?_⟩;all_goals exact eQ
theorem fYA (w:World) :
  Calls Tryz.prog 132 #[.int .i64 5,.int .i64 5] w fun e w'=>e=.returned (.agg #[.string (opTx (14)),.int .i64 (5)])/\Below w.heap.size w w':=by
 go_enter Tryz.func132,Tryz.ntmps132;go_wp2;refine bodyPost_ret (v:=.agg #[.string (opTx (14)),.int .i64 (5)]) yQ rfl ⟨rfl,?_⟩;all_goals exact eQ
theorem zYA (r:Nat) (hr:r < 8) (h0:((r:Int)==4)=false) (h1:((r:Int)==5)=false) (w:World) :
  Calls Tryz.prog 132 #[.int .i64 r,.int .i64 6] w fun e w'=>e=.returned (.agg #[.string (opTx (0)),.int .i64 (0)])/\Below w.heap.size w w':=by
 have l:((w.alloc (.cells #[.string ⟨#[]⟩,.int .i64 0] 149)).alloc (.cells #[.string ⟨#[65,83,76]⟩,.string ⟨#[82,79,76]⟩,.string ⟨#[76,83,82]⟩,.string ⟨#[82,79,82]⟩,.string ⟨#[83,84,88]⟩,.string ⟨#[76,68,88]⟩,.string ⟨#[68,69,67]⟩,.string ⟨#[73,78,67]⟩] 9)).cell? ⟨w.heap.size+1,r,none⟩=some (.string (opTx (9+r))):=
  row8 (w.alloc (.cells #[.string ⟨#[]⟩,.int .i64 0] 149)) (fun r=>.string (opTx (9+r))) 9 r hr xQ
 have j:0<=(r:Int)/\(r:Int) < 8:=dQ;clear hr;go_enter Tryz.func132,Tryz.ntmps132;go_wp2;refine bodyPost_ret (v:=.agg #[.string (opTx (0)),.int .i64 (0)]) yQ rfl ⟨rfl,?_⟩;all_goals exact eQ
theorem aXA (w:World) :
  Calls Tryz.prog 132 #[.int .i64 4,.int .i64 6] w fun e w'=>e=.returned (.agg #[.string (opTx (21)),.int .i64 (0)])/\Below w.heap.size w w':=by
 go_enter Tryz.func132,Tryz.ntmps132;go_wp2;refine bodyPost_ret (v:=.agg #[.string (opTx (21)),.int .i64 (0)]) yQ rfl ⟨rfl,?_⟩;all_goals exact eQ
theorem wYA (w:World) :
  Calls Tryz.prog 132 #[.int .i64 5,.int .i64 6] w fun e w'=>e=.returned (.agg #[.string (opTx (22)),.int .i64 (0)])/\Below w.heap.size w w':=by
 go_enter Tryz.func132,Tryz.ntmps132;go_wp2;refine bodyPost_ret (v:=.agg #[.string (opTx (22)),.int .i64 (0)]) yQ rfl ⟨rfl,?_⟩;all_goals exact eQ
theorem rZA (r:Nat) (hr:r < 8) (h0:((r:Int)==4)=false) (h1:((r:Int)==5)=false) (w:World) :
  Calls Tryz.prog 132 #[.int .i64 r,.int .i64 7] w fun e w'=>e=.returned (.agg #[.string (opTx (9+r)),.int .i64 (7)])/\Below w.heap.size w w':=by
 have l:((w.alloc (.cells #[.string ⟨#[]⟩,.int .i64 0] 149)).alloc (.cells #[.string ⟨#[65,83,76]⟩,.string ⟨#[82,79,76]⟩,.string ⟨#[76,83,82]⟩,.string ⟨#[82,79,82]⟩,.string ⟨#[83,84,88]⟩,.string ⟨#[76,68,88]⟩,.string ⟨#[68,69,67]⟩,.string ⟨#[73,78,67]⟩] 9)).cell? ⟨w.heap.size+1,r,none⟩=some (.string (opTx (9+r))):=
  row8 (w.alloc (.cells #[.string ⟨#[]⟩,.int .i64 0] 149)) (fun r=>.string (opTx (9+r))) 9 r hr xQ
 have j:0<=(r:Int)/\(r:Int) < 8:=dQ;clear hr;go_enter Tryz.func132,Tryz.ntmps132;go_wp2;refine bodyPost_ret (v:=.agg #[.string (opTx (9+r)),.int .i64 (7)]) rQe rfl ⟨rfl,?_⟩;all_goals exact eQ
theorem bZA (w:World) :
  Calls Tryz.prog 132 #[.int .i64 4,.int .i64 7] w fun e w'=>e=.returned (.agg #[.string (opTx (0)),.int .i64 (0)])/\Below w.heap.size w w':=by
 go_enter Tryz.func132,Tryz.ntmps132;go_wp2;refine bodyPost_ret (v:=.agg #[.string (opTx (0)),.int .i64 (0)]) yQ rfl ⟨rfl,?_⟩;all_goals exact eQ
theorem fZA (w:World) :
  Calls Tryz.prog 132 #[.int .i64 5,.int .i64 7] w fun e w'=>e=.returned (.agg #[.string (opTx (14)),.int .i64 (8)])/\Below w.heap.size w w':=by
 go_enter Tryz.func132,Tryz.ntmps132;go_wp2;refine bodyPost_ret (v:=.agg #[.string (opTx (14)),.int .i64 (8)]) yQ rfl ⟨rfl,?_⟩;all_goals exact eQ
theorem rXA (r:Nat) (hr:r < 8) (h0:((r:Int)==4)=false) (h1:((r:Int)==5)=false) (h2:(r:Int) < 4) (w:World) :
  Calls Tryz.prog 132 #[.int .i64 r,.int .i64 2] w fun e w'=>e=.returned (.agg #[.string (opTx (9+r)),.int .i64 (1)])/\Below w.heap.size w w':=by
 have l:((w.alloc (.cells #[.string ⟨#[]⟩,.int .i64 0] 149)).alloc (.cells #[.string ⟨#[65,83,76]⟩,.string ⟨#[82,79,76]⟩,.string ⟨#[76,83,82]⟩,.string ⟨#[82,79,82]⟩,.string ⟨#[83,84,88]⟩,.string ⟨#[76,68,88]⟩,.string ⟨#[68,69,67]⟩,.string ⟨#[73,78,67]⟩] 9)).cell? ⟨w.heap.size+1,r,none⟩=some (.string (opTx (9+r))):=
  row8 (w.alloc (.cells #[.string ⟨#[]⟩,.int .i64 0] 149)) (fun r=>.string (opTx (9+r))) 9 r hr xQ
 have j:0<=(r:Int)/\(r:Int) < 8:=dQ;clear hr;go_enter Tryz.func132,Tryz.ntmps132;go_wp2;refine bodyPost_ret (v:=.agg #[.string (opTx (9+r)),.int .i64 (1)]) rQe rfl ⟨rfl,?_⟩;all_goals exact eQ
theorem pYA (w:World) :
  Calls Tryz.prog 132 #[.int .i64 4,.int .i64 2] w fun e w'=>e=.returned (.agg #[.string (opTx (17)),.int .i64 (0)])/\Below w.heap.size w w':=by
 go_enter Tryz.func132,Tryz.ntmps132;go_wp2;refine bodyPost_ret (v:=.agg #[.string (opTx (17)),.int .i64 (0)]) yQ rfl ⟨rfl,?_⟩;all_goals exact eQ
theorem vYA (w:World) :
  Calls Tryz.prog 132 #[.int .i64 5,.int .i64 2] w fun e w'=>e=.returned (.agg #[.string (opTx (18)),.int .i64 (0)])/\Below w.heap.size w w':=by
 go_enter Tryz.func132,Tryz.ntmps132;go_wp2;refine bodyPost_ret (v:=.agg #[.string (opTx (18)),.int .i64 (0)]) yQ rfl ⟨rfl,?_⟩;all_goals exact eQ
theorem iXA (w:World) :
  Calls Tryz.prog 132 #[.int .i64 6,.int .i64 2] w fun e w'=>e=.returned (.agg #[.string (opTx (19)),.int .i64 (0)])/\Below w.heap.size w w':=by
 go_enter Tryz.func132,Tryz.ntmps132;go_wp2;refine bodyPost_ret (v:=.agg #[.string (opTx (19)),.int .i64 (0)]) yQ rfl ⟨rfl,?_⟩;all_goals exact eQ
theorem iZA (w:World) :
  Calls Tryz.prog 132 #[.int .i64 7,.int .i64 2] w fun e w'=>e=.returned (.agg #[.string (opTx (20)),.int .i64 (0)])/\Below w.heap.size w w':=by
 go_enter Tryz.func132,Tryz.ntmps132;go_wp2;refine bodyPost_ret (v:=.agg #[.string (opTx (20)),.int .i64 (0)]) yQ rfl ⟨rfl,?_⟩;all_goals exact eQ
theorem tTA (r p:Nat) (hr:r < 8) (hp:p < 8) (w:World) :
  Calls Tryz.prog 132 #[.int .i64 r,.int .i64 p] w fun e w'=>e=.returned (.agg #[.string (opTx (bBA r p)),.int .i64 (mDA r p)])/\Below w.heap.size w w':=by
 by_cases h4:r=4
 ·subst h4;rcases p with _|_|_|_|_|_|_|_|p
  ·exact tZA w
  ·exact jYA w
  ·exact pYA w
  ·exact cXA w
  ·exact lZA w
  ·exact wWA w
  ·exact aXA w
  ·exact bZA w
  ·omega
 by_cases h5:r=5
 ·subst h5;rcases p with _|_|_|_|_|_|_|_|p
  ·exact nZA w
  ·exact tXA w
  ·exact vYA w
  ·exact kXA w
  ·exact hXA w
  ·exact fYA w
  ·exact wYA w
  ·exact fZA w
  ·omega
 have z:((r:Int)==4)=false:=qQ;have E:((r:Int)==5)=false:=qQ;rcases p with _|_|_|_|_|_|_|_|p
 ·simpa [bBA,mDA,h5] using sWA r hr z E w
 ·simpa [bBA,mDA] using tWA r hr z E w
 ·by_cases hs:r < 4
  ·simpa [bBA,mDA,hs] using rXA r hr z E dQ w
  ·obtain rfl|rfl:r=6\/r=7:=dQ
   ·exact iXA w
   ·exact iZA w
 ·simpa [bBA,mDA] using fXA r hr z E w
 ·simpa [bBA,mDA] using rYA r hr z E w
 ·simpa [bBA,mDA,h4,h5] using lYA r hr z E w
 ·simpa [bBA,mDA,h4,h5] using zYA r hr z E w
 ·simpa [bBA,mDA,h4,h5] using rZA r hr z E w
 ·omega

end Go.Proofs.YtckfdbjjjgfbfaaGreat
