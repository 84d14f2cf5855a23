import Derived.Test.YtckfdbjjjgfbfaaGreatVOpA
set_option linter.unusedVariables false
set_option linter.unusedSimpArgs false
set_option maxRecDepth 100000
set_option maxHeartbeats 4000000
namespace Go.Proofs.YtckfdbjjjgfbfaaGreat
open Go.RowKit
theorem mWA (r:Nat) (hr:r < 8) (w:World) :
  Calls Tryz.prog 130 #[.int .i64 r,.int .i64 0] w fun e w'=>e=.returned (.agg #[.string (opTx (wJA r)),.int .i64 (rFA r)])/\Below w.heap.size w w':=by
 have B:((w.alloc (.cells #[.string ⟨#[]⟩,.int .i64 0] 149)).alloc (.cells #[.string ⟨#[]⟩,.string ⟨#[]⟩,.string ⟨#[]⟩,.string ⟨#[]⟩,.string ⟨#[83,84,89]⟩,.string ⟨#[76,68,89]⟩,.string ⟨#[67,80,89]⟩,.string ⟨#[67,80,88]⟩] 9)).cell? ⟨w.heap.size+1,r,none⟩=some (.string (opTx (fCA r))):=
  row8 (w.alloc (.cells #[.string ⟨#[]⟩,.int .i64 0] 149)) (fun r=>.string (opTx (fCA r))) 9 r hr yQ
 have U:((((w.alloc (.cells #[.string ⟨#[]⟩,.int .i64 0] 149)).alloc (.cells #[.string ⟨#[]⟩,.string ⟨#[]⟩,.string ⟨#[]⟩,.string ⟨#[]⟩,.string ⟨#[83,84,89]⟩,.string ⟨#[76,68,89]⟩,.string ⟨#[67,80,89]⟩,.string ⟨#[67,80,88]⟩] 9)).alloc (.cells #[.int .i64 0,.int .i64 6,.int .i64 0,.int .i64 0,.int .i64 0,.int .i64 2,.int .i64 2,.int .i64 2] 3)).alloc (.cells #[.string ⟨#[66,82,75]⟩,.string ⟨#[74,83,82]⟩,.string ⟨#[82,84,73]⟩,.string ⟨#[82,84,83]⟩,.string ⟨#[]⟩,.string ⟨#[76,68,89]⟩,.string ⟨#[67,80,89]⟩,.string ⟨#[67,80,88]⟩] 9)).cell? ⟨w.heap.size+1+1,r,none⟩=some (.int .i64 (rFA r)):=by
  rw[World.cell?_alloc_past _ _ _ yQ];exact row8 ((w.alloc (.cells #[.string ⟨#[]⟩,.int .i64 0] 149)).alloc (.cells #[.string ⟨#[]⟩,.string ⟨#[]⟩,.string ⟨#[]⟩,.string ⟨#[]⟩,.string ⟨#[83,84,89]⟩,.string ⟨#[76,68,89]⟩,.string ⟨#[67,80,89]⟩,.string ⟨#[67,80,88]⟩] 9)) (fun r=>.int .i64 (rFA r)) 3 r hr yQ
 have z:(((w.alloc (.cells #[.string ⟨#[]⟩,.int .i64 0] 149)).alloc (.cells #[.string ⟨#[]⟩,.string ⟨#[]⟩,.string ⟨#[]⟩,.string ⟨#[]⟩,.string ⟨#[83,84,89]⟩,.string ⟨#[76,68,89]⟩,.string ⟨#[67,80,89]⟩,.string ⟨#[67,80,88]⟩] 9)).alloc (.cells #[.int .i64 0,.int .i64 6,.int .i64 0,.int .i64 0,.int .i64 0,.int .i64 2,.int .i64 2,.int .i64 2] 3)).cell? ⟨w.heap.size+1+1,r,none⟩=some (.int .i64 (rFA r)):=
  row8 ((w.alloc (.cells #[.string ⟨#[]⟩,.int .i64 0] 149)).alloc (.cells #[.string ⟨#[]⟩,.string ⟨#[]⟩,.string ⟨#[]⟩,.string ⟨#[]⟩,.string ⟨#[83,84,89]⟩,.string ⟨#[76,68,89]⟩,.string ⟨#[67,80,89]⟩,.string ⟨#[67,80,88]⟩] 9)) (fun r=>.int .i64 (rFA r)) 3 r hr yQ
 have K:((((w.alloc (.cells #[.string ⟨#[]⟩,.int .i64 0] 149)).alloc (.cells #[.string ⟨#[]⟩,.string ⟨#[]⟩,.string ⟨#[]⟩,.string ⟨#[]⟩,.string ⟨#[83,84,89]⟩,.string ⟨#[76,68,89]⟩,.string ⟨#[67,80,89]⟩,.string ⟨#[67,80,88]⟩] 9)).alloc (.cells #[.int .i64 0,.int .i64 6,.int .i64 0,.int .i64 0,.int .i64 0,.int .i64 2,.int .i64 2,.int .i64 2] 3)).alloc (.cells #[.string ⟨#[66,82,75]⟩,.string ⟨#[74,83,82]⟩,.string ⟨#[82,84,73]⟩,.string ⟨#[82,84,83]⟩,.string ⟨#[]⟩,.string ⟨#[76,68,89]⟩,.string ⟨#[67,80,89]⟩,.string ⟨#[67,80,88]⟩] 9)).cell? ⟨w.heap.size+1+1+1,r,none⟩=some (.string (opTx (wJA r))):=
  row8 (((w.alloc (.cells #[.string ⟨#[]⟩,.int .i64 0] 149)).alloc (.cells #[.string ⟨#[]⟩,.string ⟨#[]⟩,.string ⟨#[]⟩,.string ⟨#[]⟩,.string ⟨#[83,84,89]⟩,.string ⟨#[76,68,89]⟩,.string ⟨#[67,80,89]⟩,.string ⟨#[67,80,88]⟩] 9)).alloc (.cells #[.int .i64 0,.int .i64 6,.int .i64 0,.int .i64 0,.int .i64 0,.int .i64 2,.int .i64 2,.int .i64 2] 3)) (fun r=>.string (opTx (wJA r))) 9 r hr yQ
 have j:0<=(r:Int)/\(r:Int) < 8:=dQ;clear hr;go_enter Tryz.func130,Tryz.ntmps130;go_wp2;go_region;go_wp2;refine bodyPost_ret (v:=.agg #[.string (opTx (wJA r)),.int .i64 (rFA r)]) cQe rfl ⟨rfl,?_⟩;all_goals exact eQ
theorem mSA (r:Nat) (hr:r < 8) (h0:((r:Int)==1)=false) (w:World) :
  Calls Tryz.prog 130 #[.int .i64 r,.int .i64 1] w fun e w'=>e=.returned (.agg #[.string (opTx (fCA r)),.int .i64 (3)])/\Below w.heap.size w w':=by
 have B:((w.alloc (.cells #[.string ⟨#[]⟩,.int .i64 0] 149)).alloc (.cells #[.string ⟨#[]⟩,.string ⟨#[]⟩,.string ⟨#[]⟩,.string ⟨#[]⟩,.string ⟨#[83,84,89]⟩,.string ⟨#[76,68,89]⟩,.string ⟨#[67,80,89]⟩,.string ⟨#[67,80,88]⟩] 9)).cell? ⟨w.heap.size+1,r,none⟩=some (.string (opTx (fCA r))):=
  row8 (w.alloc (.cells #[.string ⟨#[]⟩,.int .i64 0] 149)) (fun r=>.string (opTx (fCA r))) 9 r hr yQ
 have j:0<=(r:Int)/\(r:Int) < 8:=dQ;clear hr;go_enter Tryz.func130,Tryz.ntmps130;go_wp2;refine bodyPost_ret (v:=.agg #[.string (opTx (fCA r)),.int .i64 (3)]) cQe rfl ⟨rfl,?_⟩;all_goals exact eQ
theorem lSA (w:World) :
  Calls Tryz.prog 130 #[.int .i64 1,.int .i64 1] w fun e w'=>e=.returned (.agg #[.string (opTx (31)),.int .i64 (3)])/\Below w.heap.size w w':=by
 go_enter Tryz.func130,Tryz.ntmps130;go_wp2;refine bodyPost_ret (v:=.agg #[.string (opTx (31)),.int .i64 (3)]) wQb rfl ⟨rfl,?_⟩;all_goals exact eQ
theorem nWA (r:Nat) (hr:r < 8) (w:World) :
  Calls Tryz.prog 130 #[.int .i64 r,.int .i64 2] w fun e w'=>e=.returned (.agg #[.string (opTx (33+r)),.int .i64 (0)])/\Below w.heap.size w w':=by
 have B:((w.alloc (.cells #[.string ⟨#[]⟩,.int .i64 0] 149)).alloc (.cells #[.string ⟨#[]⟩,.string ⟨#[]⟩,.string ⟨#[]⟩,.string ⟨#[]⟩,.string ⟨#[83,84,89]⟩,.string ⟨#[76,68,89]⟩,.string ⟨#[67,80,89]⟩,.string ⟨#[67,80,88]⟩] 9)).cell? ⟨w.heap.size+1,r,none⟩=some (.string (opTx (fCA r))):=
  row8 (w.alloc (.cells #[.string ⟨#[]⟩,.int .i64 0] 149)) (fun r=>.string (opTx (fCA r))) 9 r hr yQ
 have K:(((w.alloc (.cells #[.string ⟨#[]⟩,.int .i64 0] 149)).alloc (.cells #[.string ⟨#[]⟩,.string ⟨#[]⟩,.string ⟨#[]⟩,.string ⟨#[]⟩,.string ⟨#[83,84,89]⟩,.string ⟨#[76,68,89]⟩,.string ⟨#[67,80,89]⟩,.string ⟨#[67,80,88]⟩] 9)).alloc (.cells #[.string ⟨#[80,72,80]⟩,.string ⟨#[80,76,80]⟩,.string ⟨#[80,72,65]⟩,.string ⟨#[80,76,65]⟩,.string ⟨#[68,69,89]⟩,.string ⟨#[84,65,89]⟩,.string ⟨#[73,78,89]⟩,.string ⟨#[73,78,88]⟩] 9)).cell? ⟨w.heap.size+1+1,r,none⟩=some (.string (opTx (33+r))):=
  row8 ((w.alloc (.cells #[.string ⟨#[]⟩,.int .i64 0] 149)).alloc (.cells #[.string ⟨#[]⟩,.string ⟨#[]⟩,.string ⟨#[]⟩,.string ⟨#[]⟩,.string ⟨#[83,84,89]⟩,.string ⟨#[76,68,89]⟩,.string ⟨#[67,80,89]⟩,.string ⟨#[67,80,88]⟩] 9)) (fun r=>.string (opTx (33+r))) 9 r hr yQ
 have j:0<=(r:Int)/\(r:Int) < 8:=dQ;clear hr;go_enter Tryz.func130,Tryz.ntmps130;go_wp2;refine bodyPost_ret (v:=.agg #[.string (opTx (33+r)),.int .i64 (0)]) cQe rfl ⟨rfl,?_⟩;all_goals exact eQ
theorem oWA (r:Nat) (hr:r < 8) (w:World) :
  Calls Tryz.prog 130 #[.int .i64 r,.int .i64 4] w fun e w'=>e=.returned (.agg #[.string (opTx (41+r)),.int .i64 (12)])/\Below w.heap.size w w':=by
 have B:((w.alloc (.cells #[.string ⟨#[]⟩,.int .i64 0] 149)).alloc (.cells #[.string ⟨#[]⟩,.string ⟨#[]⟩,.string ⟨#[]⟩,.string ⟨#[]⟩,.string ⟨#[83,84,89]⟩,.string ⟨#[76,68,89]⟩,.string ⟨#[67,80,89]⟩,.string ⟨#[67,80,88]⟩] 9)).cell? ⟨w.heap.size+1,r,none⟩=some (.string (opTx (fCA r))):=
  row8 (w.alloc (.cells #[.string ⟨#[]⟩,.int .i64 0] 149)) (fun r=>.string (opTx (fCA r))) 9 r hr yQ
 have K:(((w.alloc (.cells #[.string ⟨#[]⟩,.int .i64 0] 149)).alloc (.cells #[.string ⟨#[]⟩,.string ⟨#[]⟩,.string ⟨#[]⟩,.string ⟨#[]⟩,.string ⟨#[83,84,89]⟩,.string ⟨#[76,68,89]⟩,.string ⟨#[67,80,89]⟩,.string ⟨#[67,80,88]⟩] 9)).alloc (.cells #[.string ⟨#[66,80,76]⟩,.string ⟨#[66,77,73]⟩,.string ⟨#[66,86,67]⟩,.string ⟨#[66,86,83]⟩,.string ⟨#[66,67,67]⟩,.string ⟨#[66,67,83]⟩,.string ⟨#[66,78,69]⟩,.string ⟨#[66,69,81]⟩] 9)).cell? ⟨w.heap.size+1+1,r,none⟩=some (.string (opTx (41+r))):=
  row8 ((w.alloc (.cells #[.string ⟨#[]⟩,.int .i64 0] 149)).alloc (.cells #[.string ⟨#[]⟩,.string ⟨#[]⟩,.string ⟨#[]⟩,.string ⟨#[]⟩,.string ⟨#[83,84,89]⟩,.string ⟨#[76,68,89]⟩,.string ⟨#[67,80,89]⟩,.string ⟨#[67,80,88]⟩] 9)) (fun r=>.string (opTx (41+r))) 9 r hr yQ
 have j:0<=(r:Int)/\(r:Int) < 8:=dQ;clear hr;go_enter Tryz.func130,Tryz.ntmps130;go_wp2;refine bodyPost_ret (v:=.agg #[.string (opTx (41+r)),.int .i64 (12)]) cQe rfl ⟨rfl,?_⟩;all_goals exact eQ
theorem pWA (r:Nat) (hr:r < 8) (w:World) :
  Calls Tryz.prog 130 #[.int .i64 r,.int .i64 6] w fun e w'=>e=.returned (.agg #[.string (opTx (49+r)),.int .i64 (0)])/\Below w.heap.size w w':=by
 have B:((w.alloc (.cells #[.string ⟨#[]⟩,.int .i64 0] 149)).alloc (.cells #[.string ⟨#[]⟩,.string ⟨#[]⟩,.string ⟨#[]⟩,.string ⟨#[]⟩,.string ⟨#[83,84,89]⟩,.string ⟨#[76,68,89]⟩,.string ⟨#[67,80,89]⟩,.string ⟨#[67,80,88]⟩] 9)).cell? ⟨w.heap.size+1,r,none⟩=some (.string (opTx (fCA r))):=
  row8 (w.alloc (.cells #[.string ⟨#[]⟩,.int .i64 0] 149)) (fun r=>.string (opTx (fCA r))) 9 r hr yQ
 have K:(((w.alloc (.cells #[.string ⟨#[]⟩,.int .i64 0] 149)).alloc (.cells #[.string ⟨#[]⟩,.string ⟨#[]⟩,.string ⟨#[]⟩,.string ⟨#[]⟩,.string ⟨#[83,84,89]⟩,.string ⟨#[76,68,89]⟩,.string ⟨#[67,80,89]⟩,.string ⟨#[67,80,88]⟩] 9)).alloc (.cells #[.string ⟨#[67,76,67]⟩,.string ⟨#[83,69,67]⟩,.string ⟨#[67,76,73]⟩,.string ⟨#[83,69,73]⟩,.string ⟨#[84,89,65]⟩,.string ⟨#[67,76,86]⟩,.string ⟨#[67,76,68]⟩,.string ⟨#[83,69,68]⟩] 9)).cell? ⟨w.heap.size+1+1,r,none⟩=some (.string (opTx (49+r))):=
  row8 ((w.alloc (.cells #[.string ⟨#[]⟩,.int .i64 0] 149)).alloc (.cells #[.string ⟨#[]⟩,.string ⟨#[]⟩,.string ⟨#[]⟩,.string ⟨#[]⟩,.string ⟨#[83,84,89]⟩,.string ⟨#[76,68,89]⟩,.string ⟨#[67,80,89]⟩,.string ⟨#[67,80,88]⟩] 9)) (fun r=>.string (opTx (49+r))) 9 r hr yQ
 have j:0<=(r:Int)/\(r:Int) < 8:=dQ;clear hr;go_enter Tryz.func130,Tryz.ntmps130;go_wp2;refine bodyPost_ret (v:=.agg #[.string (opTx (49+r)),.int .i64 (0)]) cQe rfl ⟨rfl,?_⟩;all_goals exact eQ
theorem qSA (r:Nat) (hr:r < 8) (h0:((r:Int)==1)=false) (h1:((r:Int)==2)=false) (h2:((r:Int)==3)=false) (w:World) :
  Calls Tryz.prog 130 #[.int .i64 r,.int .i64 3] w fun e w'=>e=.returned (.agg #[.string (opTx (fCA r)),.int .i64 (6)])/\Below w.heap.size w w':=by
 have B:((w.alloc (.cells #[.string ⟨#[]⟩,.int .i64 0] 149)).alloc (.cells #[.string ⟨#[]⟩,.string ⟨#[]⟩,.string ⟨#[]⟩,.string ⟨#[]⟩,.string ⟨#[83,84,89]⟩,.string ⟨#[76,68,89]⟩,.string ⟨#[67,80,89]⟩,.string ⟨#[67,80,88]⟩] 9)).cell? ⟨w.heap.size+1,r,none⟩=some (.string (opTx (fCA r))):=
  row8 (w.alloc (.cells #[.string ⟨#[]⟩,.int .i64 0] 149)) (fun r=>.string (opTx (fCA r))) 9 r hr yQ
 have j:0<=(r:Int)/\(r:Int) < 8:=dQ;clear hr;go_enter Tryz.func130,Tryz.ntmps130;go_wp2;refine bodyPost_ret (v:=.agg #[.string (opTx (fCA r)),.int .i64 (6)]) cQe rfl ⟨rfl,?_⟩;all_goals exact eQ
theorem nSA (w:World) :
  Calls Tryz.prog 130 #[.int .i64 1,.int .i64 3] w fun e w'=>e=.returned (.agg #[.string (opTx (31)),.int .i64 (6)])/\Below w.heap.size w w':=by
 go_enter Tryz.func130,Tryz.ntmps130;go_wp2;refine bodyPost_ret (v:=.agg #[.string (opTx (31)),.int .i64 (6)]) wQb rfl ⟨rfl,?_⟩;all_goals exact eQ
theorem oSA (w:World) :
  Calls Tryz.prog 130 #[.int .i64 2,.int .i64 3] w fun e w'=>e=.returned (.agg #[.string (opTx (32)),.int .i64 (6)])/\Below w.heap.size w w':=by
 go_enter Tryz.func130,Tryz.ntmps130;go_wp2;refine bodyPost_ret (v:=.agg #[.string (opTx (32)),.int .i64 (6)]) wQb rfl ⟨rfl,?_⟩;all_goals exact eQ
theorem pSA (w:World) :
  Calls Tryz.prog 130 #[.int .i64 3,.int .i64 3] w fun e w'=>e=.returned (.agg #[.string (opTx (32)),.int .i64 (9)])/\Below w.heap.size w w':=by
 go_enter Tryz.func130,Tryz.ntmps130;go_wp2;refine bodyPost_ret (v:=.agg #[.string (opTx (32)),.int .i64 (9)]) wQb rfl ⟨rfl,?_⟩;all_goals exact eQ
theorem tSA (r:Nat) (hr:r < 8) (h0:((r:Int)==4)=false) (h1:((r:Int)==5)=false) (w:World) :
  Calls Tryz.prog 130 #[.int .i64 r,.int .i64 5] w fun e w'=>e=.returned (.agg #[.string (opTx (0)),.int .i64 (0)])/\Below w.heap.size w w':=by
 have B:((w.alloc (.cells #[.string ⟨#[]⟩,.int .i64 0] 149)).alloc (.cells #[.string ⟨#[]⟩,.string ⟨#[]⟩,.string ⟨#[]⟩,.string ⟨#[]⟩,.string ⟨#[83,84,89]⟩,.string ⟨#[76,68,89]⟩,.string ⟨#[67,80,89]⟩,.string ⟨#[67,80,88]⟩] 9)).cell? ⟨w.heap.size+1,r,none⟩=some (.string (opTx (fCA r))):=
  row8 (w.alloc (.cells #[.string ⟨#[]⟩,.int .i64 0] 149)) (fun r=>.string (opTx (fCA r))) 9 r hr yQ
 have j:0<=(r:Int)/\(r:Int) < 8:=dQ;clear hr;go_enter Tryz.func130,Tryz.ntmps130;go_wp2;refine bodyPost_ret (v:=.agg #[.string (opTx (0)),.int .i64 (0)]) wQb rfl ⟨rfl,?_⟩;all_goals exact eQ
theorem rSA (w:World) :
  Calls Tryz.prog 130 #[.int .i64 4,.int .i64 5] w fun e w'=>e=.returned (.agg #[.string (opTx (23)),.int .i64 (4)])/\Below w.heap.size w w':=by
 go_enter Tryz.func130,Tryz.ntmps130;go_wp2;refine bodyPost_ret (v:=.agg #[.string (opTx (23)),.int .i64 (4)]) wQb rfl ⟨rfl,?_⟩;all_goals exact eQ
theorem sSA (w:World) :
  Calls Tryz.prog 130 #[.int .i64 5,.int .i64 5] w fun e w'=>e=.returned (.agg #[.string (opTx (24)),.int .i64 (4)])/\Below w.heap.size w w':=by
 go_enter Tryz.func130,Tryz.ntmps130;go_wp2;refine bodyPost_ret (v:=.agg #[.string (opTx (24)),.int .i64 (4)]) wQb rfl ⟨rfl,?_⟩;all_goals exact eQ
theorem vSA (r:Nat) (hr:r < 8) (h0:((r:Int)==5)=false) (w:World) :
  Calls Tryz.prog 130 #[.int .i64 r,.int .i64 7] w fun e w'=>e=.returned (.agg #[.string (opTx (0)),.int .i64 (0)])/\Below w.heap.size w w':=by
 have B:((w.alloc (.cells #[.string ⟨#[]⟩,.int .i64 0] 149)).alloc (.cells #[.string ⟨#[]⟩,.string ⟨#[]⟩,.string ⟨#[]⟩,.string ⟨#[]⟩,.string ⟨#[83,84,89]⟩,.string ⟨#[76,68,89]⟩,.string ⟨#[67,80,89]⟩,.string ⟨#[67,80,88]⟩] 9)).cell? ⟨w.heap.size+1,r,none⟩=some (.string (opTx (fCA r))):=
  row8 (w.alloc (.cells #[.string ⟨#[]⟩,.int .i64 0] 149)) (fun r=>.string (opTx (fCA r))) 9 r hr yQ
 have j:0<=(r:Int)/\(r:Int) < 8:=dQ;clear hr;go_enter Tryz.func130,Tryz.ntmps130;go_wp2;refine bodyPost_ret (v:=.agg #[.string (opTx (0)),.int .i64 (0)]) wQb rfl ⟨rfl,?_⟩;all_goals exact eQ
theorem uSA (w:World) :
  Calls Tryz.prog 130 #[.int .i64 5,.int .i64 7] w fun e w'=>e=.returned (.agg #[.string (opTx (24)),.int .i64 (7)])/\Below w.heap.size w w':=by
 go_enter Tryz.func130,Tryz.ntmps130;go_wp2;refine bodyPost_ret (v:=.agg #[.string (opTx (24)),.int .i64 (7)]) wQb rfl ⟨rfl,?_⟩;all_goals exact eQ
theorem xPA (r p:Nat) (hr:r < 8) (H:p < 8) (w:World) :
  Calls Tryz.prog 130 #[.int .i64 r,.int .i64 p] w fun e w'=>e=.returned (.agg #[.string (opTx (oBA r p)),.int .i64 (fEA r p)])/\Below w.heap.size w w':=by
 rcases p with _|_|_|_|_|_|_|_|p
 ·exact mWA r hr w
 ·by_cases h1:r=1
  ·subst h1;exact lSA w
  ·simpa [oBA,fEA,h1] using mSA r hr qQ w
 ·exact nWA r hr w
 ·by_cases h1:r=1
  ·subst h1;exact nSA w
  by_cases h2:r=2
  ·subst h2;exact oSA w
  by_cases h3:r=3
  ·subst h3;exact pSA w
  simpa [oBA,fEA,h1,h2,h3] using qSA r hr qQ qQ qQ w
 ·exact oWA r hr w
 ·by_cases h4:r=4
  ·subst h4;exact rSA w
  by_cases h5:r=5
  ·subst h5;exact sSA w
  simpa [oBA,fEA,h4,h5] using tSA r hr qQ qQ w
 ·exact pWA r hr w
 ·by_cases h5:r=5
  ·subst h5;exact uSA w
  simpa [oBA,fEA,h5] using vSA r hr qQ w
 ·omega
theorem nJA {W l:World} (hb:Below W.heap.size W l):(∀ b o,b < W.heap.size->l.cell? ⟨b,o,none⟩=W.cell? ⟨b,o,none⟩)/\(∀ b o,b < W.heap.size->l.frozen? ⟨b,o,none⟩=W.frozen? ⟨b,o,none⟩):=
 ⟨fun b o h=>hb.cell (p:=⟨b,o,none⟩) h,fun b o h=>hb.frozen (p:=⟨b,o,none⟩) h⟩
theorem dCB (b:Nat) (hb:b < 256) (h0:((b:Int) % 4==0)=true) (w:World) :
  Calls Tryz.prog 107 #[.int .u8 b] w fun e w'=>e=.returned (.agg #[.string (opTx (oBA (b / 32) (b / 4 % 8))),.int .i64 (fEA (b / 32) (b / 4 % 8))])/\Below w.heap.size w w':=by
 have hr:b / 32 < 8:=dQ;have H:b / 4 % 8 < 8:=dQ;go_enter Tryz.func107,Tryz.ntmps107;go_wp2_with fail;refine (xPA (b / 32) (b / 4 % 8) hr H _).mono ?_;rintro e l ⟨rfl,hb1⟩;obtain⟨hc,hf⟩:=nJA hb1;have hz:w.heap.size < l.heap.size:=rQf;go_wp2;refine bodyPost_ret (v:=.agg #[.string (opTx (oBA (b / 32) (b / 4 % 8))),.int .i64 (fEA (b / 32) (b / 4 % 8))]) fQh rfl ⟨rfl,?_⟩;exact (((((Below.refl _ _).alloc (Nat.le_refl _) _).trans (hb1.mono yQ)).setCell yQ _).setCell yQ _)
theorem eCB (b:Nat) (hb:b < 256) (h0:((b:Int) % 4==0)=false) (h1:((b:Int) % 4==1)=true) (w:World) :
  Calls Tryz.prog 107 #[.int .u8 b] w fun e w'=>e=.returned (.agg #[.string (opTx (xDA (b / 32) (b / 4 % 8))),.int .i64 (iHA (b / 32) (b / 4 % 8))])/\Below w.heap.size w w':=by
 have hr:b / 32 < 8:=dQ;have H:b / 4 % 8 < 8:=dQ;go_enter Tryz.func107,Tryz.ntmps107;go_wp2_with fail;refine (dSA (b / 32) (b / 4 % 8) hr H _).mono ?_;rintro e l ⟨rfl,hb1⟩;obtain⟨hc,hf⟩:=nJA hb1;have hz:w.heap.size < l.heap.size:=rQf;go_wp2;refine bodyPost_ret (v:=.agg #[.string (opTx (xDA (b / 32) (b / 4 % 8))),.int .i64 (iHA (b / 32) (b / 4 % 8))]) fQh rfl ⟨rfl,?_⟩;exact (((((Below.refl _ _).alloc (Nat.le_refl _) _).trans (hb1.mono yQ)).setCell yQ _).setCell yQ _)
theorem fCB (b:Nat) (hb:b < 256) (h0:((b:Int) % 4==0)=false) (h1:((b:Int) % 4==1)=false) (h2:((b:Int) % 4==2)=true) (w:World) :
  Calls Tryz.prog 107 #[.int .u8 b] w fun e w'=>e=.returned (.agg #[.string (opTx (bBA (b / 32) (b / 4 % 8))),.int .i64 (nDA (b / 32) (b / 4 % 8))])/\Below w.heap.size w w':=by
 have hr:b / 32 < 8:=dQ;have H:b / 4 % 8 < 8:=dQ;go_enter Tryz.func107,Tryz.ntmps107;go_wp2_with fail;refine (kSA (b / 32) (b / 4 % 8) hr H _).mono ?_;rintro e l ⟨rfl,hb1⟩;obtain⟨hc,hf⟩:=nJA hb1;have hz:w.heap.size < l.heap.size:=rQf;go_wp2;refine bodyPost_ret (v:=.agg #[.string (opTx (bBA (b / 32) (b / 4 % 8))),.int .i64 (nDA (b / 32) (b / 4 % 8))]) fQh rfl ⟨rfl,?_⟩;exact (((((Below.refl _ _).alloc (Nat.le_refl _) _).trans (hb1.mono yQ)).setCell yQ _).setCell yQ _)
theorem gCB (b:Nat) (hb:b < 256) (h0:((b:Int) % 4==0)=false) (h1:((b:Int) % 4==1)=false) (h2:((b:Int) % 4==2)=false) (w:World) :
  Calls Tryz.prog 107 #[.int .u8 b] w fun e w'=>e=.returned (.agg #[.string (opTx 0),.int .i64 0])/\Below w.heap.size w w':=by
 go_enter Tryz.func107,Tryz.ntmps107;go_wp2;refine bodyPost_ret (v:=.agg #[.string (opTx 0),.int .i64 0]) (by simp[results,Tryz.results107,go_sem,opTx]) rfl ⟨rfl,?_⟩;exact (Below.refl _ _).alloc (Nat.le_refl _) _
theorem iLA (b:Nat) (hb:b < 256) (w:World) :
  Calls Tryz.prog 107 #[.int .u8 b] w fun e w'=>e=.returned (.agg #[.string (lAA b),.int .i64 (zEA b)])/\Below w.heap.size w w':=by
 have h4:b % 4=0\/b % 4=1\/b % 4=2\/b % 4=3:=dQ;rcases h4 with h|h|h|h
 ·simpa [lAA,opId,zEA,h] using dCB b hb qQ w
 ·simpa [lAA,opId,zEA,h] using eCB b hb qQ qQ w
 ·simpa [lAA,opId,zEA,h] using fCB b hb qQ qQ qQ w
 ·simpa [lAA,opId,zEA,h] using gCB b hb qQ qQ qQ w
theorem bEA (b:Nat) (hb:b < 256) (w:World) :
  Calls Tryz.prog 78 #[.int .u8 b] w fun e w'=>e=.returned (.string (lAA b))/\Below w.heap.size w w':=by
 have Q:∀ (a c:Value) (w:World),(Instr.field 149 (.agg #[a,c]) 0).run Tryz.prog w=.ok a w:=fun _ _ _=>gQ
 go_enter Tryz.func78,Tryz.ntmps78;go_wp2_with fail;refine (iLA b hb _).mono ?_;rintro e l ⟨rfl,hb1⟩;go_wp2;go_ret;exact⟨rfl,hb1⟩
theorem jIA {i:Nat} (hi:i<=56):(opTx i).toList.isEmpty=decide (i=0):=by
 rw[ByteArray.toList_eq];have h:∀ k:Fin 57,(opTx k.1).data.toList.isEmpty=decide (k.1=0):=cQb;exact h ⟨i,dQ⟩
theorem gHA {b:Nat} (hb:b < 256):(lAA b).toList.isEmpty=decide (opId b=0):=jIA (pTA hb)
theorem jHA (b:Nat) (hb:b < 256) (w:World) :
  Calls Tryz.prog 82 #[.int .u8 b] w fun e w'=>e=.returned (.int .i64 (iAA b))/\Below w.heap.size w w':=by
 have J:=gHA hb;by_cases hi:opId b=0
 ·have O:(lAA b).toList.isEmpty=true:=by rw[J];simp[hi]
  clear J;have z:iAA b=-1:=by simp[iAA,hi]
  rw[z];clear z hi;go_enter Tryz.func82,Tryz.ntmps82;go_wp2_with fail;refine (bEA b hb _).mono ?_;rintro e l ⟨rfl,hb1⟩;go_wp2;go_ret;exact⟨rfl,hb1⟩
 ·have O:(lAA b).toList.isEmpty=false:=by rw[J];simp[hi]
  clear J;have z:iAA b=zEA b:=by simp[iAA,hi]
  rw[z];clear z hi;have Q:∀ (a c:Value) (w:World),(Instr.field 149 (.agg #[a,c]) 1).run Tryz.prog w=.ok c w:=fun _ _ _=>gQ
  go_enter Tryz.func82,Tryz.ntmps82;go_wp2_with fail;refine (bEA b hb _).mono ?_;rintro e l ⟨rfl,hb1⟩;go_wp2_with fail;refine (iLA b hb _).mono ?_;rintro e T ⟨rfl,hb2⟩;go_wp2;go_ret;exact⟨rfl,hb1.trans (hb2.mono hb1.size)⟩
theorem kHA (b:Nat) (hb:b < 256) (w:World) :
  Calls Tryz.prog 100 #[.int .u8 b] w fun e w'=>e=.returned (.int .i64 (sAA b))/\Below w.heap.size w w':=by
 have hs:sAA b=(if iAA b=-1 then 0 else gDA (iAA b)):=uBA (p:=fun b=>sAA b=(if iAA b=-1 then 0 else gDA (iAA b))) cQb hb;rw[hs];clear hs;have E:=jHA b hb;obtain⟨m,z⟩:∃ m,iAA b=m:=⟨_,rfl⟩;rw[z] at E ⊢;clear z;go_enter Tryz.func100,Tryz.ntmps100;go_wp2_with fail;refine (E _).mono ?_;rintro e l ⟨rfl,hb1⟩;clear E;go_wp2;all_goals go_ret
 all_goals refine⟨?_,hb1⟩
 all_goals simp_all [gDA]
theorem aSA (b:Nat) (s:ByteArray) (m:Int) (E:∀ w,Calls Tryz.prog 82 #[.int .u8 b] w fun e w'=>e=.returned (.int .i64 m)/\Below w.heap.size w w') (R:∀ w,Calls Tryz.prog 78 #[.int .u8 b] w fun e w'=>e=.returned (.string s)/\Below w.heap.size w w') (w:World) :
  Calls Tryz.prog 80 #[.int .u8 b] w fun e w'=>e=.returned (.int .i64 (kindL s.toList m))/\Below w.heap.size w w':=by
 go_enter Tryz.func80,Tryz.ntmps80;go_wp2_with fail;refine (R _).mono ?_;rintro e l ⟨rfl,hb1⟩;go_wp2_with fail;refine (E _).mono ?_;rintro e T ⟨rfl,hb2⟩;clear E R;go_wp2;all_goals go_ret
 all_goals refine⟨?_,hb1.trans (hb2.mono hb1.size)⟩
 all_goals simp_all [kindL,kindN,kindM]
theorem sJA (b:Nat) (hb:b < 256) (w:World) :
  Calls Tryz.prog 80 #[.int .u8 b] w fun e w'=>e=.returned (.int .i64 (eAA b))/\Below w.heap.size w w':=by
 have h:=aSA b (lAA b) (iAA b) (jHA b hb) (bEA b hb) w
 rwa [ByteArray.toList_eq,yOA hb] at h

end Go.Proofs.YtckfdbjjjgfbfaaGreat
