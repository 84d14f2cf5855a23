import Derived.Test.YtckfdbjjjgfbfaaGreatVAluA
set_option linter.unusedVariables false
set_option linter.unusedSimpArgs false
set_option maxRecDepth 100000
namespace Go.Proofs.YtckfdbjjjgfbfaaGreat
open Go.RowKit
theorem row8 (W:World) (v:Nat->Value) (t:TypeId) (r:Nat) (hr:r < 8) {B:Nat} (hB:B=W.heap.size):(W.alloc (.cells #[v 0,v 1,v 2,v 3,v 4,v 5,v 6,v 7] t)).cell? ⟨B,r,none⟩=some (v r):=by
 subst hB;rw[World.cell?_alloc_at _ _ _ _ rfl];rcases r with _|_|_|_|_|_|_|_|r<;>first|rfl|omega
theorem tPA (r p:Nat) (hr:r < 8) (H:p < 8) (w:World) (J:¬ (r=4/\p=2)) :
  Calls Tryz.prog 131 #[.int .i64 r,.int .i64 p] w fun e w'=>e=.returned (.agg #[.string (opTx (1+r)),.int .i64 (lGA p)])/\Below w.heap.size w w':=by
 have l:(((w.alloc (.cells #[.string ⟨#[]⟩,.int .i64 0] 149)).alloc (.cells #[.string ⟨#[79,82,65]⟩,.string ⟨#[65,78,68]⟩,.string ⟨#[69,79,82]⟩,.string ⟨#[65,68,67]⟩,.string ⟨#[83,84,65]⟩,.string ⟨#[76,68,65]⟩,.string ⟨#[67,77,80]⟩,.string ⟨#[83,66,67]⟩] 9)).alloc (.cells #[.int .i64 10,.int .i64 3,.int .i64 2,.int .i64 6,.int .i64 11,.int .i64 4,.int .i64 8,.int .i64 7] 3)).cell? ⟨w.heap.size+1,r,none⟩=some (.string (opTx (1+r))):=by
  rw[World.cell?_alloc_past _ _ _ yQ];exact row8 (w.alloc (.cells #[.string ⟨#[]⟩,.int .i64 0] 149)) (fun r=>.string (opTx (1+r))) 9 r hr yQ
 have Q:(((w.alloc (.cells #[.string ⟨#[]⟩,.int .i64 0] 149)).alloc (.cells #[.string ⟨#[79,82,65]⟩,.string ⟨#[65,78,68]⟩,.string ⟨#[69,79,82]⟩,.string ⟨#[65,68,67]⟩,.string ⟨#[83,84,65]⟩,.string ⟨#[76,68,65]⟩,.string ⟨#[67,77,80]⟩,.string ⟨#[83,66,67]⟩] 9)).alloc (.cells #[.int .i64 10,.int .i64 3,.int .i64 2,.int .i64 6,.int .i64 11,.int .i64 4,.int .i64 8,.int .i64 7] 3)).cell? ⟨w.heap.size+1+1,p,none⟩=some (.int .i64 (lGA p)):=
  row8 ((w.alloc (.cells #[.string ⟨#[]⟩,.int .i64 0] 149)).alloc (.cells #[.string ⟨#[79,82,65]⟩,.string ⟨#[65,78,68]⟩,.string ⟨#[69,79,82]⟩,.string ⟨#[65,68,67]⟩,.string ⟨#[83,84,65]⟩,.string ⟨#[76,68,65]⟩,.string ⟨#[67,77,80]⟩,.string ⟨#[83,66,67]⟩] 9)) (fun p=>.int .i64 (lGA p)) 3 p H yQ
 have j:0<=(r:Int)/\(r:Int) < 8:=dQ;have K:0<=(p:Int)/\(p:Int) < 8:=dQ;have O:((r:Int)==4)=false\/(((r:Int)==4)=true/\((p:Int)==2)=false):=by
  simp;omega
 clear J hr H;rcases O with h4|⟨h4,h2⟩ <;>
 ·go_enter Tryz.func131,Tryz.ntmps131;go_wp2;go_region;go_wp2;refine bodyPost_ret (v:=.agg #[.string (opTx (1+r)),.int .i64 (lGA p)]) (by simp[results,Tryz.results131,go_sem]) rfl ⟨rfl,?_⟩;all_goals exact eQ
theorem sPA (w:World) :
  Calls Tryz.prog 131 #[.int .i64 4,.int .i64 2] w fun e w'=>e=.returned (.agg #[.string (opTx 0),.int .i64 0])/\Below w.heap.size w w':=by
 go_enter Tryz.func131,Tryz.ntmps131;go_wp2;exact bodyPost_ret (v:=.agg #[.string (opTx 0),.int .i64 0]) (by simp[results,Tryz.results131,go_sem,opTx]) rfl ⟨rfl,(Below.refl _ _).alloc yQ _⟩
theorem dSA (r p:Nat) (hr:r < 8) (H:p < 8) (w:World) :
  Calls Tryz.prog 131 #[.int .i64 r,.int .i64 p] w fun e w'=>e=.returned (.agg #[.string (opTx (xDA r p)),.int .i64 (iHA r p)])/\Below w.heap.size w w':=by
 by_cases h:r=4/\p=2
 ·obtain⟨rfl,rfl⟩:=h;exact sPA w
 ·simp only[xDA,iHA,if_neg h];exact tPA r p hr H w h
theorem oVA (r:Nat) (hr:r < 8) (h0:((r:Int)==4)=false) (h1:((r:Int)==5)=false) (w:World) :
  Calls Tryz.prog 132 #[.int .i64 r,.int .i64 0] w fun e w'=>e=.returned (.agg #[.string (opTx (0)),.int .i64 (0)])/\Below w.heap.size w w':=by
 have l:((w.alloc (.cells #[.string ⟨#[]⟩,.int .i64 0] 149)).alloc (.cells #[.string ⟨#[65,83,76]⟩,.string ⟨#[82,79,76]⟩,.string ⟨#[76,83,82]⟩,.string ⟨#[82,79,82]⟩,.string ⟨#[83,84,88]⟩,.string ⟨#[76,68,88]⟩,.string ⟨#[68,69,67]⟩,.string ⟨#[73,78,67]⟩] 9)).cell? ⟨w.heap.size+1,r,none⟩=some (.string (opTx (9+r))):=
  row8 (w.alloc (.cells #[.string ⟨#[]⟩,.int .i64 0] 149)) (fun r=>.string (opTx (9+r))) 9 r hr yQ
 have j:0<=(r:Int)/\(r:Int) < 8:=dQ;clear hr;go_enter Tryz.func132,Tryz.ntmps132;go_wp2;refine bodyPost_ret (v:=.agg #[.string (opTx (0)),.int .i64 (0)]) xQ rfl ⟨rfl,?_⟩;all_goals exact eQ
theorem mVA (w:World) :
  Calls Tryz.prog 132 #[.int .i64 4,.int .i64 0] w fun e w'=>e=.returned (.agg #[.string (opTx (0)),.int .i64 (0)])/\Below w.heap.size w w':=by
 go_enter Tryz.func132,Tryz.ntmps132;go_wp2;refine bodyPost_ret (v:=.agg #[.string (opTx (0)),.int .i64 (0)]) xQ rfl ⟨rfl,?_⟩;all_goals exact eQ
theorem nVA (w:World) :
  Calls Tryz.prog 132 #[.int .i64 5,.int .i64 0] w fun e w'=>e=.returned (.agg #[.string (opTx (14)),.int .i64 (2)])/\Below w.heap.size w w':=by
 go_enter Tryz.func132,Tryz.ntmps132;go_wp2;refine bodyPost_ret (v:=.agg #[.string (opTx (14)),.int .i64 (2)]) xQ rfl ⟨rfl,?_⟩;all_goals exact eQ
theorem rVA (r:Nat) (hr:r < 8) (h0:((r:Int)==4)=false) (h1:((r:Int)==5)=false) (w:World) :
  Calls Tryz.prog 132 #[.int .i64 r,.int .i64 1] w fun e w'=>e=.returned (.agg #[.string (opTx (9+r)),.int .i64 (3)])/\Below w.heap.size w w':=by
 have l:((w.alloc (.cells #[.string ⟨#[]⟩,.int .i64 0] 149)).alloc (.cells #[.string ⟨#[65,83,76]⟩,.string ⟨#[82,79,76]⟩,.string ⟨#[76,83,82]⟩,.string ⟨#[82,79,82]⟩,.string ⟨#[83,84,88]⟩,.string ⟨#[76,68,88]⟩,.string ⟨#[68,69,67]⟩,.string ⟨#[73,78,67]⟩] 9)).cell? ⟨w.heap.size+1,r,none⟩=some (.string (opTx (9+r))):=
  row8 (w.alloc (.cells #[.string ⟨#[]⟩,.int .i64 0] 149)) (fun r=>.string (opTx (9+r))) 9 r hr yQ
 have j:0<=(r:Int)/\(r:Int) < 8:=dQ;clear hr;go_enter Tryz.func132,Tryz.ntmps132;go_wp2;refine bodyPost_ret (v:=.agg #[.string (opTx (9+r)),.int .i64 (3)]) jQf rfl ⟨rfl,?_⟩;all_goals exact eQ
theorem pVA (w:World) :
  Calls Tryz.prog 132 #[.int .i64 4,.int .i64 1] w fun e w'=>e=.returned (.agg #[.string (opTx (13)),.int .i64 (3)])/\Below w.heap.size w w':=by
 go_enter Tryz.func132,Tryz.ntmps132;go_wp2;refine bodyPost_ret (v:=.agg #[.string (opTx (13)),.int .i64 (3)]) xQ rfl ⟨rfl,?_⟩;all_goals exact eQ
theorem qVA (w:World) :
  Calls Tryz.prog 132 #[.int .i64 5,.int .i64 1] w fun e w'=>e=.returned (.agg #[.string (opTx (14)),.int .i64 (3)])/\Below w.heap.size w w':=by
 go_enter Tryz.func132,Tryz.ntmps132;go_wp2;refine bodyPost_ret (v:=.agg #[.string (opTx (14)),.int .i64 (3)]) xQ rfl ⟨rfl,?_⟩;all_goals exact eQ
theorem zVA (r:Nat) (hr:r < 8) (h0:((r:Int)==4)=false) (h1:((r:Int)==5)=false) (w:World) :
  Calls Tryz.prog 132 #[.int .i64 r,.int .i64 3] w fun e w'=>e=.returned (.agg #[.string (opTx (9+r)),.int .i64 (6)])/\Below w.heap.size w w':=by
 have l:((w.alloc (.cells #[.string ⟨#[]⟩,.int .i64 0] 149)).alloc (.cells #[.string ⟨#[65,83,76]⟩,.string ⟨#[82,79,76]⟩,.string ⟨#[76,83,82]⟩,.string ⟨#[82,79,82]⟩,.string ⟨#[83,84,88]⟩,.string ⟨#[76,68,88]⟩,.string ⟨#[68,69,67]⟩,.string ⟨#[73,78,67]⟩] 9)).cell? ⟨w.heap.size+1,r,none⟩=some (.string (opTx (9+r))):=
  row8 (w.alloc (.cells #[.string ⟨#[]⟩,.int .i64 0] 149)) (fun r=>.string (opTx (9+r))) 9 r hr yQ
 have j:0<=(r:Int)/\(r:Int) < 8:=dQ;clear hr;go_enter Tryz.func132,Tryz.ntmps132;go_wp2;refine bodyPost_ret (v:=.agg #[.string (opTx (9+r)),.int .i64 (6)]) jQf rfl ⟨rfl,?_⟩;all_goals exact eQ
theorem xVA (w:World) :
  Calls Tryz.prog 132 #[.int .i64 4,.int .i64 3] w fun e w'=>e=.returned (.agg #[.string (opTx (13)),.int .i64 (6)])/\Below w.heap.size w w':=by
 go_enter Tryz.func132,Tryz.ntmps132;go_wp2;refine bodyPost_ret (v:=.agg #[.string (opTx (13)),.int .i64 (6)]) xQ rfl ⟨rfl,?_⟩;all_goals exact eQ
theorem yVA (w:World) :
  Calls Tryz.prog 132 #[.int .i64 5,.int .i64 3] w fun e w'=>e=.returned (.agg #[.string (opTx (14)),.int .i64 (6)])/\Below w.heap.size w w':=by
 go_enter Tryz.func132,Tryz.ntmps132;go_wp2;refine bodyPost_ret (v:=.agg #[.string (opTx (14)),.int .i64 (6)]) xQ rfl ⟨rfl,?_⟩;all_goals exact eQ
theorem cWA (r:Nat) (hr:r < 8) (h0:((r:Int)==4)=false) (h1:((r:Int)==5)=false) (w:World) :
  Calls Tryz.prog 132 #[.int .i64 r,.int .i64 4] w fun e w'=>e=.returned (.agg #[.string (opTx (0)),.int .i64 (0)])/\Below w.heap.size w w':=by
 have l:((w.alloc (.cells #[.string ⟨#[]⟩,.int .i64 0] 149)).alloc (.cells #[.string ⟨#[65,83,76]⟩,.string ⟨#[82,79,76]⟩,.string ⟨#[76,83,82]⟩,.string ⟨#[82,79,82]⟩,.string ⟨#[83,84,88]⟩,.string ⟨#[76,68,88]⟩,.string ⟨#[68,69,67]⟩,.string ⟨#[73,78,67]⟩] 9)).cell? ⟨w.heap.size+1,r,none⟩=some (.string (opTx (9+r))):=
  row8 (w.alloc (.cells #[.string ⟨#[]⟩,.int .i64 0] 149)) (fun r=>.string (opTx (9+r))) 9 r hr yQ
 have j:0<=(r:Int)/\(r:Int) < 8:=dQ;clear hr;go_enter Tryz.func132,Tryz.ntmps132;go_wp2;refine bodyPost_ret (v:=.agg #[.string (opTx (0)),.int .i64 (0)]) xQ rfl ⟨rfl,?_⟩;all_goals exact eQ
theorem aWA (w:World) :
  Calls Tryz.prog 132 #[.int .i64 4,.int .i64 4] w fun e w'=>e=.returned (.agg #[.string (opTx (0)),.int .i64 (0)])/\Below w.heap.size w w':=by
 go_enter Tryz.func132,Tryz.ntmps132;go_wp2;refine bodyPost_ret (v:=.agg #[.string (opTx (0)),.int .i64 (0)]) xQ rfl ⟨rfl,?_⟩;all_goals exact eQ
theorem bWA (w:World) :
  Calls Tryz.prog 132 #[.int .i64 5,.int .i64 4] w fun e w'=>e=.returned (.agg #[.string (opTx (0)),.int .i64 (0)])/\Below w.heap.size w w':=by
 go_enter Tryz.func132,Tryz.ntmps132;go_wp2;refine bodyPost_ret (v:=.agg #[.string (opTx (0)),.int .i64 (0)]) xQ rfl ⟨rfl,?_⟩;all_goals exact eQ
theorem fWA (r:Nat) (hr:r < 8) (h0:((r:Int)==4)=false) (h1:((r:Int)==5)=false) (w:World) :
  Calls Tryz.prog 132 #[.int .i64 r,.int .i64 5] w fun e w'=>e=.returned (.agg #[.string (opTx (9+r)),.int .i64 (4)])/\Below w.heap.size w w':=by
 have l:((w.alloc (.cells #[.string ⟨#[]⟩,.int .i64 0] 149)).alloc (.cells #[.string ⟨#[65,83,76]⟩,.string ⟨#[82,79,76]⟩,.string ⟨#[76,83,82]⟩,.string ⟨#[82,79,82]⟩,.string ⟨#[83,84,88]⟩,.string ⟨#[76,68,88]⟩,.string ⟨#[68,69,67]⟩,.string ⟨#[73,78,67]⟩] 9)).cell? ⟨w.heap.size+1,r,none⟩=some (.string (opTx (9+r))):=
  row8 (w.alloc (.cells #[.string ⟨#[]⟩,.int .i64 0] 149)) (fun r=>.string (opTx (9+r))) 9 r hr yQ
 have j:0<=(r:Int)/\(r:Int) < 8:=dQ;clear hr;go_enter Tryz.func132,Tryz.ntmps132;go_wp2;refine bodyPost_ret (v:=.agg #[.string (opTx (9+r)),.int .i64 (4)]) jQf rfl ⟨rfl,?_⟩;all_goals exact eQ
theorem dWA (w:World) :
  Calls Tryz.prog 132 #[.int .i64 4,.int .i64 5] w fun e w'=>e=.returned (.agg #[.string (opTx (13)),.int .i64 (5)])/\Below w.heap.size w w':=by
 go_enter Tryz.func132,Tryz.ntmps132;go_wp2;refine bodyPost_ret (v:=.agg #[.string (opTx (13)),.int .i64 (5)]) xQ rfl ⟨rfl,?_⟩;all_goals exact eQ
theorem eWA (w:World) :
  Calls Tryz.prog 132 #[.int .i64 5,.int .i64 5] w fun e w'=>e=.returned (.agg #[.string (opTx (14)),.int .i64 (5)])/\Below w.heap.size w w':=by
 go_enter Tryz.func132,Tryz.ntmps132;go_wp2;refine bodyPost_ret (v:=.agg #[.string (opTx (14)),.int .i64 (5)]) xQ rfl ⟨rfl,?_⟩;all_goals exact eQ
theorem iWA (r:Nat) (hr:r < 8) (h0:((r:Int)==4)=false) (h1:((r:Int)==5)=false) (w:World) :
  Calls Tryz.prog 132 #[.int .i64 r,.int .i64 6] w fun e w'=>e=.returned (.agg #[.string (opTx (0)),.int .i64 (0)])/\Below w.heap.size w w':=by
 have l:((w.alloc (.cells #[.string ⟨#[]⟩,.int .i64 0] 149)).alloc (.cells #[.string ⟨#[65,83,76]⟩,.string ⟨#[82,79,76]⟩,.string ⟨#[76,83,82]⟩,.string ⟨#[82,79,82]⟩,.string ⟨#[83,84,88]⟩,.string ⟨#[76,68,88]⟩,.string ⟨#[68,69,67]⟩,.string ⟨#[73,78,67]⟩] 9)).cell? ⟨w.heap.size+1,r,none⟩=some (.string (opTx (9+r))):=
  row8 (w.alloc (.cells #[.string ⟨#[]⟩,.int .i64 0] 149)) (fun r=>.string (opTx (9+r))) 9 r hr yQ
 have j:0<=(r:Int)/\(r:Int) < 8:=dQ;clear hr;go_enter Tryz.func132,Tryz.ntmps132;go_wp2;refine bodyPost_ret (v:=.agg #[.string (opTx (0)),.int .i64 (0)]) xQ rfl ⟨rfl,?_⟩;all_goals exact eQ
theorem gWA (w:World) :
  Calls Tryz.prog 132 #[.int .i64 4,.int .i64 6] w fun e w'=>e=.returned (.agg #[.string (opTx (21)),.int .i64 (0)])/\Below w.heap.size w w':=by
 go_enter Tryz.func132,Tryz.ntmps132;go_wp2;refine bodyPost_ret (v:=.agg #[.string (opTx (21)),.int .i64 (0)]) xQ rfl ⟨rfl,?_⟩;all_goals exact eQ
theorem hWA (w:World) :
  Calls Tryz.prog 132 #[.int .i64 5,.int .i64 6] w fun e w'=>e=.returned (.agg #[.string (opTx (22)),.int .i64 (0)])/\Below w.heap.size w w':=by
 go_enter Tryz.func132,Tryz.ntmps132;go_wp2;refine bodyPost_ret (v:=.agg #[.string (opTx (22)),.int .i64 (0)]) xQ rfl ⟨rfl,?_⟩;all_goals exact eQ
theorem lWA (r:Nat) (hr:r < 8) (h0:((r:Int)==4)=false) (h1:((r:Int)==5)=false) (w:World) :
  Calls Tryz.prog 132 #[.int .i64 r,.int .i64 7] w fun e w'=>e=.returned (.agg #[.string (opTx (9+r)),.int .i64 (7)])/\Below w.heap.size w w':=by
 have l:((w.alloc (.cells #[.string ⟨#[]⟩,.int .i64 0] 149)).alloc (.cells #[.string ⟨#[65,83,76]⟩,.string ⟨#[82,79,76]⟩,.string ⟨#[76,83,82]⟩,.string ⟨#[82,79,82]⟩,.string ⟨#[83,84,88]⟩,.string ⟨#[76,68,88]⟩,.string ⟨#[68,69,67]⟩,.string ⟨#[73,78,67]⟩] 9)).cell? ⟨w.heap.size+1,r,none⟩=some (.string (opTx (9+r))):=
  row8 (w.alloc (.cells #[.string ⟨#[]⟩,.int .i64 0] 149)) (fun r=>.string (opTx (9+r))) 9 r hr yQ
 have j:0<=(r:Int)/\(r:Int) < 8:=dQ;clear hr;go_enter Tryz.func132,Tryz.ntmps132;go_wp2;refine bodyPost_ret (v:=.agg #[.string (opTx (9+r)),.int .i64 (7)]) jQf rfl ⟨rfl,?_⟩;all_goals exact eQ
theorem jWA (w:World) :
  Calls Tryz.prog 132 #[.int .i64 4,.int .i64 7] w fun e w'=>e=.returned (.agg #[.string (opTx (0)),.int .i64 (0)])/\Below w.heap.size w w':=by
 go_enter Tryz.func132,Tryz.ntmps132;go_wp2;refine bodyPost_ret (v:=.agg #[.string (opTx (0)),.int .i64 (0)]) xQ rfl ⟨rfl,?_⟩;all_goals exact eQ
theorem kWA (w:World) :
  Calls Tryz.prog 132 #[.int .i64 5,.int .i64 7] w fun e w'=>e=.returned (.agg #[.string (opTx (14)),.int .i64 (8)])/\Below w.heap.size w w':=by
 go_enter Tryz.func132,Tryz.ntmps132;go_wp2;refine bodyPost_ret (v:=.agg #[.string (opTx (14)),.int .i64 (8)]) xQ rfl ⟨rfl,?_⟩;all_goals exact eQ
theorem wVA (r:Nat) (hr:r < 8) (h0:((r:Int)==4)=false) (h1:((r:Int)==5)=false) (h2:(r:Int) < 4) (w:World) :
  Calls Tryz.prog 132 #[.int .i64 r,.int .i64 2] w fun e w'=>e=.returned (.agg #[.string (opTx (9+r)),.int .i64 (1)])/\Below w.heap.size w w':=by
 have l:((w.alloc (.cells #[.string ⟨#[]⟩,.int .i64 0] 149)).alloc (.cells #[.string ⟨#[65,83,76]⟩,.string ⟨#[82,79,76]⟩,.string ⟨#[76,83,82]⟩,.string ⟨#[82,79,82]⟩,.string ⟨#[83,84,88]⟩,.string ⟨#[76,68,88]⟩,.string ⟨#[68,69,67]⟩,.string ⟨#[73,78,67]⟩] 9)).cell? ⟨w.heap.size+1,r,none⟩=some (.string (opTx (9+r))):=
  row8 (w.alloc (.cells #[.string ⟨#[]⟩,.int .i64 0] 149)) (fun r=>.string (opTx (9+r))) 9 r hr yQ
 have j:0<=(r:Int)/\(r:Int) < 8:=dQ;clear hr;go_enter Tryz.func132,Tryz.ntmps132;go_wp2;refine bodyPost_ret (v:=.agg #[.string (opTx (9+r)),.int .i64 (1)]) jQf rfl ⟨rfl,?_⟩;all_goals exact eQ
theorem sVA (w:World) :
  Calls Tryz.prog 132 #[.int .i64 4,.int .i64 2] w fun e w'=>e=.returned (.agg #[.string (opTx (17)),.int .i64 (0)])/\Below w.heap.size w w':=by
 go_enter Tryz.func132,Tryz.ntmps132;go_wp2;refine bodyPost_ret (v:=.agg #[.string (opTx (17)),.int .i64 (0)]) xQ rfl ⟨rfl,?_⟩;all_goals exact eQ
theorem tVA (w:World) :
  Calls Tryz.prog 132 #[.int .i64 5,.int .i64 2] w fun e w'=>e=.returned (.agg #[.string (opTx (18)),.int .i64 (0)])/\Below w.heap.size w w':=by
 go_enter Tryz.func132,Tryz.ntmps132;go_wp2;refine bodyPost_ret (v:=.agg #[.string (opTx (18)),.int .i64 (0)]) xQ rfl ⟨rfl,?_⟩;all_goals exact eQ
theorem uVA (w:World) :
  Calls Tryz.prog 132 #[.int .i64 6,.int .i64 2] w fun e w'=>e=.returned (.agg #[.string (opTx (19)),.int .i64 (0)])/\Below w.heap.size w w':=by
 go_enter Tryz.func132,Tryz.ntmps132;go_wp2;refine bodyPost_ret (v:=.agg #[.string (opTx (19)),.int .i64 (0)]) xQ rfl ⟨rfl,?_⟩;all_goals exact eQ
theorem vVA (w:World) :
  Calls Tryz.prog 132 #[.int .i64 7,.int .i64 2] w fun e w'=>e=.returned (.agg #[.string (opTx (20)),.int .i64 (0)])/\Below w.heap.size w w':=by
 go_enter Tryz.func132,Tryz.ntmps132;go_wp2;refine bodyPost_ret (v:=.agg #[.string (opTx (20)),.int .i64 (0)]) xQ rfl ⟨rfl,?_⟩;all_goals exact eQ
theorem kSA (r p:Nat) (hr:r < 8) (H:p < 8) (w:World) :
  Calls Tryz.prog 132 #[.int .i64 r,.int .i64 p] w fun e w'=>e=.returned (.agg #[.string (opTx (bBA r p)),.int .i64 (nDA r p)])/\Below w.heap.size w w':=by
 by_cases h4:r=4
 ·subst h4;rcases p with _|_|_|_|_|_|_|_|p
  ·exact mVA w
  ·exact pVA w
  ·exact sVA w
  ·exact xVA w
  ·exact aWA w
  ·exact dWA w
  ·exact gWA w
  ·exact jWA w
  ·omega
 by_cases h5:r=5
 ·subst h5;rcases p with _|_|_|_|_|_|_|_|p
  ·exact nVA w
  ·exact qVA w
  ·exact tVA w
  ·exact yVA w
  ·exact bWA w
  ·exact eWA w
  ·exact hWA w
  ·exact kWA w
  ·omega
 have z:((r:Int)==4)=false:=qQ;have E:((r:Int)==5)=false:=qQ;rcases p with _|_|_|_|_|_|_|_|p
 ·simpa [bBA,nDA,h5] using oVA r hr z E w
 ·simpa [bBA,nDA] using rVA r hr z E w
 ·by_cases hs:r < 4
  ·simpa [bBA,nDA,hs] using wVA r hr z E dQ w
  ·obtain rfl|rfl:r=6\/r=7:=dQ
   ·exact uVA w
   ·exact vVA w
 ·simpa [bBA,nDA] using zVA r hr z E w
 ·simpa [bBA,nDA] using cWA r hr z E w
 ·simpa [bBA,nDA,h4,h5] using fWA r hr z E w
 ·simpa [bBA,nDA,h4,h5] using iWA r hr z E w
 ·simpa [bBA,nDA,h4,h5] using lWA r hr z E w
 ·omega

end Go.Proofs.YtckfdbjjjgfbfaaGreat
