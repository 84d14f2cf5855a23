import Derived.Test.YtckfdbjjjgfbfaaGreatVOpI
set_option linter.unusedVariables false
set_option linter.unusedSimpArgs false
set_option maxRecDepth 100000
namespace Go.Proofs.YtckfdbjjjgfbfaaGreat
open Go.RowKit
def nmRow (p:Nat):Value:=.agg #[.string (opTx (oBA 0 p)),.string (opTx (oBA 1 p)),.string (opTx (oBA 2 p)),.string (opTx (oBA 3 p)),.string (opTx (oBA 4 p)),.string (opTx (oBA 5 p)),.string (opTx (oBA 6 p)),.string (opTx (oBA 7 p))]
def nBA (n:Nat):Array MapEntry:=((List.range n).map fun (i:Nat)=>{ key:=Value.int .i64 (i:Int),val:=nmRow i,born:=i:MapEntry }).toArray
theorem eKA (n:Nat):(nBA n).push { key:=.int .i64 (n:Int),val:=nmRow n,born:=n }=nBA (n+1):=by
 simp[nBA,List.range_succ]
theorem zFB (n:Nat) (hn:n < 8):Instr.findNow (.int .i64) (.int .i64 (n:Int)) (nBA n).toList 0=some none:=by
 rcases n with _|_|_|_|_|_|_|_|n<;>first|omega|kernel_rfl
theorem jBB (p:Nat) (l:p < 8):Instr.findNow (.int .i64) (.int .i64 (p:Int)) (nBA 8).toList 0=some (some (p,nmRow p)):=by
 rcases p with _|_|_|_|_|_|_|_|p<;>first|omega|kernel_rfl
theorem sNA (w:World) (o:Obj):(w.alloc o).heap[w.heap.size]?=some o:=by
 show (w.heap.push o)[w.heap.size]?=some o;simp
theorem yTA (w:World) (o E:Obj):{ w.alloc o with heap:=(w.alloc o).heap.setIfInBounds w.heap.size E }=w.alloc E:=by
 show { w with heap:=(w.heap.push o).setIfInBounds w.heap.size E }={ w with heap:=w.heap.push E };congr 1;apply Array.ext';simp
theorem rGA (n:Nat) (hn:n < 8) (w:World):(Instr.mapUpdate 175 (.map (some w.heap.size)) (.int .i64 (n:Int)) (nmRow n)).run Tryz.prog (w.alloc (.map (nBA n) n))=.ok () (w.alloc (.map (nBA (n+1)) (n+1))):=by
 have hb:=sNA w (.map (nBA n) n);have hc:(Instr.checkKey false 10000 3 (.int .i64 (n:Int))).run Tryz.prog (w.alloc (.map (nBA n) n))=.ok () _:=MapKept.run_checkKey Tryz.underlying3 (by simp[MapKept.IsKey]) false 9999;have hs:=MapKept.run_setObj_map (P:=Tryz.prog) (.map ((nBA n).push { key:=.int .i64 (n:Int),val:=nmRow n,born:=n }) (n+1)) hb;rw[yTA,eKA] at hs;simp[Instr.mapUpdate,run_underlying Tryz.underlying175,MapKept.run_getObj_map hb,hc,MapKept.run_findKey Tryz.underlying3 (zFB n hn),Result.andThen,eKA,hs]
theorem bEB (p:Nat) (l:p < 8) (w:World):(Instr.lookup 175 (.map (some w.heap.size)) (.int .i64 (p:Int)) false).run Tryz.prog (w.alloc (.map (nBA 8) 8))=.ok (nmRow p) (w.alloc (.map (nBA 8) 8)):=by
 have hb:=sNA w (.map (nBA 8) 8);have hc:(Instr.checkKey (nBA 8).isEmpty 10000 3 (.int .i64 (p:Int))).run Tryz.prog (w.alloc (.map (nBA 8) 8))=.ok () _:=MapKept.run_checkKey Tryz.underlying3 (by simp[MapKept.IsKey]) _ 9999;simp[Instr.lookup,run_underlying Tryz.underlying175,MapKept.run_getObj_map hb,hc,MapKept.run_findKey Tryz.underlying3 (jBB p l),Result.andThen]
theorem kBB (r p:Nat) (hr:r < 8) (w:World):(Instr.index 174 (nmRow p) (.int .i64 (r:Int))).run Tryz.prog w=.ok (.string (opTx (oBA r p))) w:=by
 rcases r with _|_|_|_|_|_|_|_|r<;>first|omega|kernel_rfl
theorem yMA (r p:Nat) (hr:r < 8) (l:p < 8) (w:World) :
  Calls Tryz.prog 118 #[.int .i64 r,.int .i64 p] w fun e w'=>e=.returned (.string (opTx (oBA r p)))/\Below w.heap.size w w':=by
 have hmm:(Instr.makeMap 175 none).run Tryz.prog w=.ok (.map (some w.heap.size)) (w.alloc (.map (nBA 0) 0)):=run_makeMap _ _;have h0:(Instr.mapUpdate 175 (.map (some w.heap.size)) (.int .i64 0) (.agg #[.string ⟨#[66,82,75]⟩,.string ⟨#[74,83,82]⟩,.string ⟨#[82,84,73]⟩,.string ⟨#[82,84,83]⟩,.string ⟨#[]⟩,.string ⟨#[76,68,89]⟩,.string ⟨#[67,80,89]⟩,.string ⟨#[67,80,88]⟩])).run Tryz.prog (w.alloc (.map (nBA 0) 0))=.ok () (w.alloc (.map (nBA 1) 1)):=rGA 0 dQ w;have h1:(Instr.mapUpdate 175 (.map (some w.heap.size)) (.int .i64 1) (.agg #[.string ⟨#[]⟩,.string ⟨#[66,73,84]⟩,.string ⟨#[]⟩,.string ⟨#[]⟩,.string ⟨#[83,84,89]⟩,.string ⟨#[76,68,89]⟩,.string ⟨#[67,80,89]⟩,.string ⟨#[67,80,88]⟩])).run Tryz.prog (w.alloc (.map (nBA 1) 1))=.ok () (w.alloc (.map (nBA 2) 2)):=rGA 1 dQ w;have h2:(Instr.mapUpdate 175 (.map (some w.heap.size)) (.int .i64 2) (.agg #[.string ⟨#[80,72,80]⟩,.string ⟨#[80,76,80]⟩,.string ⟨#[80,72,65]⟩,.string ⟨#[80,76,65]⟩,.string ⟨#[68,69,89]⟩,.string ⟨#[84,65,89]⟩,.string ⟨#[73,78,89]⟩,.string ⟨#[73,78,88]⟩])).run Tryz.prog (w.alloc (.map (nBA 2) 2))=.ok () (w.alloc (.map (nBA 3) 3)):=rGA 2 dQ w;have h3:(Instr.mapUpdate 175 (.map (some w.heap.size)) (.int .i64 3) (.agg #[.string ⟨#[]⟩,.string ⟨#[66,73,84]⟩,.string ⟨#[74,77,80]⟩,.string ⟨#[74,77,80]⟩,.string ⟨#[83,84,89]⟩,.string ⟨#[76,68,89]⟩,.string ⟨#[67,80,89]⟩,.string ⟨#[67,80,88]⟩])).run Tryz.prog (w.alloc (.map (nBA 3) 3))=.ok () (w.alloc (.map (nBA 4) 4)):=rGA 3 dQ w;have h4:(Instr.mapUpdate 175 (.map (some w.heap.size)) (.int .i64 4) (.agg #[.string ⟨#[66,80,76]⟩,.string ⟨#[66,77,73]⟩,.string ⟨#[66,86,67]⟩,.string ⟨#[66,86,83]⟩,.string ⟨#[66,67,67]⟩,.string ⟨#[66,67,83]⟩,.string ⟨#[66,78,69]⟩,.string ⟨#[66,69,81]⟩])).run Tryz.prog (w.alloc (.map (nBA 4) 4))=.ok () (w.alloc (.map (nBA 5) 5)):=rGA 4 dQ w;have h5:(Instr.mapUpdate 175 (.map (some w.heap.size)) (.int .i64 5) (.agg #[.string ⟨#[]⟩,.string ⟨#[]⟩,.string ⟨#[]⟩,.string ⟨#[]⟩,.string ⟨#[83,84,89]⟩,.string ⟨#[76,68,89]⟩,.string ⟨#[]⟩,.string ⟨#[]⟩])).run Tryz.prog (w.alloc (.map (nBA 5) 5))=.ok () (w.alloc (.map (nBA 6) 6)):=rGA 5 dQ w;have h6:(Instr.mapUpdate 175 (.map (some w.heap.size)) (.int .i64 6) (.agg #[.string ⟨#[67,76,67]⟩,.string ⟨#[83,69,67]⟩,.string ⟨#[67,76,73]⟩,.string ⟨#[83,69,73]⟩,.string ⟨#[84,89,65]⟩,.string ⟨#[67,76,86]⟩,.string ⟨#[67,76,68]⟩,.string ⟨#[83,69,68]⟩])).run Tryz.prog (w.alloc (.map (nBA 6) 6))=.ok () (w.alloc (.map (nBA 7) 7)):=rGA 6 dQ w;have h7:(Instr.mapUpdate 175 (.map (some w.heap.size)) (.int .i64 7) (.agg #[.string ⟨#[]⟩,.string ⟨#[]⟩,.string ⟨#[]⟩,.string ⟨#[]⟩,.string ⟨#[]⟩,.string ⟨#[76,68,89]⟩,.string ⟨#[]⟩,.string ⟨#[]⟩])).run Tryz.prog (w.alloc (.map (nBA 7) 7))=.ok () (w.alloc (.map (nBA 8) 8)):=rGA 7 dQ w;have hl:=bEB p l w;have hi:=kBB r p hr;obtain⟨R,W⟩:∃ R,nmRow p=R:=⟨_,rfl⟩;obtain⟨T,j⟩:∃ T,opTx (oBA r p)=T:=⟨_,rfl⟩;rw[W] at hl hi;rw[j] at hi;rw[j];clear W j;go_enter Tryz.func118,Tryz.ntmps118;go_wp2;go_ret;exact⟨rfl,(Below.refl _ _).alloc (Nat.le_refl _) _⟩
theorem iMA (r:Nat) (hr:r < 8) (w:World):(Instr.index 174 (.agg #[.string ⟨#[79,82,65]⟩,.string ⟨#[65,78,68]⟩,.string ⟨#[69,79,82]⟩,.string ⟨#[65,68,67]⟩,.string ⟨#[83,84,65]⟩,.string ⟨#[76,68,65]⟩,.string ⟨#[67,77,80]⟩,.string ⟨#[83,66,67]⟩]) (.int .i64 (r:Int))).run Tryz.prog w=.ok (.string (opTx (1+r))) w:=by
 rcases r with _|_|_|_|_|_|_|_|r<;>first|omega|kernel_rfl
theorem vOA (r p:Nat) (hr:r < 8) (k0:((r:Int)==4)=true) (B:((p:Int)==2)=true) (w:World) :
  Calls Tryz.prog 119 #[.int .i64 r,.int .i64 p] w fun e w'=>e=.returned (.string (⟨#[]⟩))/\w=w':=by
 go_enter Tryz.func119,Tryz.ntmps119;go_wp2;all_goals go_ret
 all_goals exact⟨rfl,rfl⟩
theorem uQA (r p:Nat) (hr:r < 8) (k0:((r:Int)==4)=true) (B:((p:Int)==2)=false) (w:World) :
  Calls Tryz.prog 119 #[.int .i64 r,.int .i64 p] w fun e w'=>e=.returned (.string (opTx (1+r)))/\w=w':=by
 have hi:=iMA r hr;obtain⟨T,j⟩:∃ T,opTx (1+r)=T:=⟨_,rfl⟩;rw[j] at hi;rw[j];clear j;go_enter Tryz.func119,Tryz.ntmps119;go_wp2;all_goals go_ret
 all_goals exact⟨rfl,rfl⟩
theorem vQA (r p:Nat) (hr:r < 8) (k0:((r:Int)==4)=false) (w:World) :
  Calls Tryz.prog 119 #[.int .i64 r,.int .i64 p] w fun e w'=>e=.returned (.string (opTx (1+r)))/\w=w':=by
 have hi:=iMA r hr;obtain⟨T,j⟩:∃ T,opTx (1+r)=T:=⟨_,rfl⟩;rw[j] at hi;rw[j];clear j;go_enter Tryz.func119,Tryz.ntmps119;go_wp2;all_goals go_ret
 all_goals exact⟨rfl,rfl⟩
theorem zMA (r p:Nat) (hr:r < 8) (w:World) :
  Calls Tryz.prog 119 #[.int .i64 r,.int .i64 p] w fun e w'=>e=.returned (.string (opTx (xDA r p)))/\w=w':=by
 by_cases h4:r=4
 ·by_cases p2:p=2
  ·simpa [xDA,h4,p2,opTx] using vOA r p hr qQ qQ w
  ·simpa [xDA,h4,p2] using uQA r p hr qQ qQ w
 ·simpa [xDA,h4] using vQA r p hr qQ w
theorem sUA (r:Nat) (hr:r < 8) (w:World):(Instr.index 174 (.agg #[.string ⟨#[]⟩,.string ⟨#[]⟩,.string ⟨#[]⟩,.string ⟨#[]⟩,.string ⟨#[]⟩,.string ⟨#[76,68,88]⟩,.string ⟨#[]⟩,.string ⟨#[]⟩]) (.int .i64 (r:Int))).run Tryz.prog w=.ok (.string (opTx (bBA r 0))) w:=by
 rcases r with _|_|_|_|_|_|_|_|r<;>first|omega|kernel_rfl
theorem tUA (r:Nat) (hr:r < 8) (w:World):(Instr.index 174 (.agg #[.string ⟨#[65,83,76]⟩,.string ⟨#[82,79,76]⟩,.string ⟨#[76,83,82]⟩,.string ⟨#[82,79,82]⟩,.string ⟨#[84,88,65]⟩,.string ⟨#[84,65,88]⟩,.string ⟨#[68,69,88]⟩,.string ⟨#[78,79,80]⟩]) (.int .i64 (r:Int))).run Tryz.prog w=.ok (.string (opTx (bBA r 2))) w:=by
 rcases r with _|_|_|_|_|_|_|_|r<;>first|omega|kernel_rfl
theorem uUA (r:Nat) (hr:r < 8) (w:World):(Instr.index 174 (.agg #[.string ⟨#[]⟩,.string ⟨#[]⟩,.string ⟨#[]⟩,.string ⟨#[]⟩,.string ⟨#[84,88,83]⟩,.string ⟨#[84,83,88]⟩,.string ⟨#[]⟩,.string ⟨#[]⟩]) (.int .i64 (r:Int))).run Tryz.prog w=.ok (.string (opTx (bBA r 6))) w:=by
 rcases r with _|_|_|_|_|_|_|_|r<;>first|omega|kernel_rfl
theorem vUA (r:Nat) (hr:r < 8) (w:World):(Instr.index 174 (.agg #[.string ⟨#[65,83,76]⟩,.string ⟨#[82,79,76]⟩,.string ⟨#[76,83,82]⟩,.string ⟨#[82,79,82]⟩,.string ⟨#[]⟩,.string ⟨#[76,68,88]⟩,.string ⟨#[68,69,67]⟩,.string ⟨#[73,78,67]⟩]) (.int .i64 (r:Int))).run Tryz.prog w=.ok (.string (opTx (bBA r 7))) w:=by
 rcases r with _|_|_|_|_|_|_|_|r<;>first|omega|kernel_rfl
theorem wUA (r:Nat) (hr:r < 8) (w:World):(Instr.index 174 (.agg #[.string ⟨#[65,83,76]⟩,.string ⟨#[82,79,76]⟩,.string ⟨#[76,83,82]⟩,.string ⟨#[82,79,82]⟩,.string ⟨#[83,84,88]⟩,.string ⟨#[76,68,88]⟩,.string ⟨#[68,69,67]⟩,.string ⟨#[73,78,67]⟩]) (.int .i64 (r:Int))).run Tryz.prog w=.ok (.string (opTx (bBA r 1))) w:=by
 rcases r with _|_|_|_|_|_|_|_|r<;>first|omega|kernel_rfl
theorem wQA (r p:Nat) (hr:r < 8) (k0:((p:Int)==0)=true) (w:World) :
  Calls Tryz.prog 120 #[.int .i64 r,.int .i64 p] w fun e w'=>e=.returned (.string (opTx (bBA r 0)))/\w=w':=by
 have hi:=sUA r hr;obtain⟨T,j⟩:∃ T,opTx (bBA r 0)=T:=⟨_,rfl⟩;rw[j] at hi;rw[j];clear j;go_enter Tryz.func120,Tryz.ntmps120;go_wp2;all_goals go_ret
 all_goals exact⟨rfl,rfl⟩
theorem xQA (r p:Nat) (hr:r < 8) (k0:((p:Int)==0)=false) (z:((p:Int)==2)=true) (w:World) :
  Calls Tryz.prog 120 #[.int .i64 r,.int .i64 p] w fun e w'=>e=.returned (.string (opTx (bBA r 2)))/\w=w':=by
 have hi:=tUA r hr;obtain⟨T,j⟩:∃ T,opTx (bBA r 2)=T:=⟨_,rfl⟩;rw[j] at hi;rw[j];clear j;go_enter Tryz.func120,Tryz.ntmps120;go_wp2;all_goals go_ret
 all_goals exact⟨rfl,rfl⟩
theorem zQA (r p:Nat) (hr:r < 8) (k0:((p:Int)==0)=false) (z:((p:Int)==2)=false) (Q:((p:Int)==4)=false) (k6:((p:Int)==6)=true) (w:World) :
  Calls Tryz.prog 120 #[.int .i64 r,.int .i64 p] w fun e w'=>e=.returned (.string (opTx (bBA r 6)))/\w=w':=by
 have hi:=uUA r hr;obtain⟨T,j⟩:∃ T,opTx (bBA r 6)=T:=⟨_,rfl⟩;rw[j] at hi;rw[j];clear j;go_enter Tryz.func120,Tryz.ntmps120;go_wp2;all_goals go_ret
 all_goals exact⟨rfl,rfl⟩
theorem aRA (r p:Nat) (hr:r < 8) (k0:((p:Int)==0)=false) (z:((p:Int)==2)=false) (Q:((p:Int)==4)=false) (k6:((p:Int)==6)=false) (k7:((p:Int)==7)=true) (w:World) :
  Calls Tryz.prog 120 #[.int .i64 r,.int .i64 p] w fun e w'=>e=.returned (.string (opTx (bBA r 7)))/\w=w':=by
 have hi:=vUA r hr;obtain⟨T,j⟩:∃ T,opTx (bBA r 7)=T:=⟨_,rfl⟩;rw[j] at hi;rw[j];clear j;go_enter Tryz.func120,Tryz.ntmps120;go_wp2;all_goals go_ret
 all_goals exact⟨rfl,rfl⟩
theorem bRA (r p:Nat) (hr:r < 8) (k0:((p:Int)==0)=false) (z:((p:Int)==2)=false) (Q:((p:Int)==4)=false) (k6:((p:Int)==6)=false) (k7:((p:Int)==7)=false) (w:World) :
  Calls Tryz.prog 120 #[.int .i64 r,.int .i64 p] w fun e w'=>e=.returned (.string (opTx (bBA r 1)))/\w=w':=by
 have hi:=wUA r hr;obtain⟨T,j⟩:∃ T,opTx (bBA r 1)=T:=⟨_,rfl⟩;rw[j] at hi;rw[j];clear j;go_enter Tryz.func120,Tryz.ntmps120;go_wp2;all_goals go_ret
 all_goals exact⟨rfl,rfl⟩
theorem yQA (r p:Nat) (hr:r < 8) (k0:((p:Int)==0)=false) (z:((p:Int)==2)=false) (Q:((p:Int)==4)=true) (w:World) :
  Calls Tryz.prog 120 #[.int .i64 r,.int .i64 p] w fun e w'=>e=.returned (.string (⟨#[]⟩))/\w=w':=by
 go_enter Tryz.func120,Tryz.ntmps120;go_wp2;all_goals go_ret
 all_goals exact⟨rfl,rfl⟩
theorem aNA (r p:Nat) (hr:r < 8) (l:p < 8) (w:World) :
  Calls Tryz.prog 120 #[.int .i64 r,.int .i64 p] w fun e w'=>e=.returned (.string (opTx (bBA r p)))/\w=w':=by
 have J:∀ q,q=1\/q=3\/q=5->bBA r q=bBA r 1:=by
  rintro q (rfl|rfl|rfl)<;>rfl
 by_cases p0:p=0
 ·subst p0;exact wQA r 0 hr iQ w
 by_cases p2:p=2
 ·subst p2;exact xQA r 2 hr iQ iQ w
 by_cases p4:p=4
 ·subst p4;exact yQA r 4 hr iQ iQ iQ w
 by_cases p6:p=6
 ·subst p6;exact zQA r 6 hr iQ iQ iQ iQ w
 by_cases p7:p=7
 ·subst p7;exact aRA r 7 hr iQ iQ iQ iQ iQ w
 rw[J p dQ];exact bRA r p hr qQ qQ qQ qQ qQ w
def idAt (r p s:Nat):Nat:=if s=0 then oBA r p else if s=1 then xDA r p else if s=2 then bBA r p else 0
theorem nTA (b:Nat) (hb:b < 256):idAt (b / 32) (b / 4 % 8) (b % 4)=opId b:=
 uBA (p:=fun b=>idAt (b / 32) (b / 4 % 8) (b % 4)=opId b) cQb hb
theorem yHA (r p s:Nat) (hr:r < 8) (l:p < 8) (w:World) :
  Calls Tryz.prog 87 #[.int .i64 r,.int .i64 p,.int .i64 s] w fun e w'=>e=.returned (.string (opTx (idAt r p s)))/\Below w.heap.size w w':=by
 cases k0:((s:Int)==0) with
 | true=>
  have h0:s=0:=mQi;go_enter Tryz.func87,Tryz.ntmps87;go_wp2_with fail;refine (yMA r p hr l _).mono ?_;rintro e w' ⟨rfl,b1⟩;go_wp2;go_ret;exact⟨by simp[idAt,h0],b1⟩
 | false=>
  have h0:¬ s=0:=mQi;cases B:((s:Int)==1) with
  | true=>
   have h1:s=1:=by simp at B;omega
   go_enter Tryz.func87,Tryz.ntmps87;go_wp2_with fail;refine (zMA r p hr _).mono ?_;rintro e w' ⟨rfl,rfl⟩;go_wp2;go_ret;exact⟨by simp[idAt,h1],Below.refl _ _⟩
  | false=>
   have h1:¬ s=1:=by simp at B;omega
   cases z:((s:Int)==2) with
   | true=>
    have h2:s=2:=by simp at z;omega
    go_enter Tryz.func87,Tryz.ntmps87;go_wp2_with fail;refine (aNA r p hr l _).mono ?_;rintro e w' ⟨rfl,rfl⟩;go_wp2;go_ret;exact⟨by simp[idAt,h2],Below.refl _ _⟩
   | false=>
    have h2:¬ s=2:=by simp at z;omega
    go_enter Tryz.func87,Tryz.ntmps87;go_wp2;go_ret;exact⟨by simp[idAt,h0,h1,h2,opTx],Below.refl _ _⟩
theorem dRA (b:Nat) (hb:b < 256) (h:opId b=0) (w:World) :
  Calls Tryz.prog 47 #[.int .u8 b] w fun e w'=>e=.returned (.agg #[.string ⟨#[]⟩,.int .i64 (-1),.int .i64 0,.int .i64 0])/\Below w.heap.size w w':=by
 have hr:b / 32 < 8:=dQ;have l:b / 4 % 8 < 8:=dQ;have H:=j_ (nTA b hb);have HH:=j_ h;have HE:(opTx 0).toList.isEmpty=true:=(jIA (i:=0) dQ).trans iQ;clear h;go_enter Tryz.func47,Tryz.ntmps47;go_wp2_with fail;refine (rIA b hb _).mono ?_;rintro e w0 ⟨rfl,rfl⟩;go_wp2_with fail;refine (yHA (b / 32) (b / 4 % 8) (b % 4) hr l _).mono ?_;rintro e U ⟨rfl,hb1⟩;rw[H.out,HH.out];obtain⟨T,j⟩:∃ T,opTx 0=T:=⟨_,rfl⟩;rw[j] at HE;rw[j];clear j;obtain⟨hc,hf⟩:=nJA hb1;have hz:w.heap.size < U.heap.size:=rQf;go_wp2;refine bodyPost_ret (v:=.agg #[.string ⟨#[]⟩,.int .i64 (-1),.int .i64 0,.int .i64 0]) (by simp[results,Tryz.results47,go_sem,hc,hz]) rfl ⟨rfl,?_⟩;exact ((((((((Below.refl _ _).alloc (Nat.le_refl _) _).trans (hb1.mono yQ)).setCell yQ _).setCell yQ _).setCell yQ _).setCell yQ _))
theorem uXA (b:Nat) (hb:b < 256) (T:ByteArray) (m:Int) (H:Hid (opTx (idAt (b / 32) (b / 4 % 8) (b % 4))=T)) (HM:Hid (imAt (b / 32) (b / 4 % 8) (b % 4)=m)) (HE:T.toList.isEmpty=false) (w:World) :
  Calls Tryz.prog 47 #[.int .u8 b] w fun e w'=>e=.returned (.agg #[.string T,.int .i64 m,.int .i64 (gDA m),.int .i64 (kindN T.toList m)])/\Below w.heap.size w w':=by
 have hr:b / 32 < 8:=dQ;have l:b / 4 % 8 < 8:=dQ;go_enter Tryz.func47,Tryz.ntmps47;go_wp2_with fail;refine (rIA b hb _).mono ?_;rintro e w0 ⟨rfl,rfl⟩;go_wp2_with fail;refine (yHA (b / 32) (b / 4 % 8) (b % 4) hr l _).mono ?_;rintro e U ⟨rfl,hb1⟩;rw[H.out];obtain⟨hc,hf⟩:=nJA hb1;have hz:w.heap.size < U.heap.size:=rQf;go_wp2_with fail;refine (vLA (b / 32) (b / 4 % 8) (b % 4) hr l _).mono ?_;rintro e w2 ⟨rfl,rfl⟩;rw[HM.out];go_wp2_with fail;refine (fNA m _).mono ?_;rintro e w2 ⟨rfl,rfl⟩;go_wp2_with fail;refine (vMA T m _).mono ?_;rintro e w2 ⟨rfl,rfl⟩;go_wp2;refine bodyPost_ret (v:=.agg #[.string T,.int .i64 m,.int .i64 (gDA m),.int .i64 (kindN T.toList m)]) (by simp[results,Tryz.results47,go_sem,hc,hz]) rfl ⟨rfl,?_⟩;exact ((((((((Below.refl _ _).alloc (Nat.le_refl _) _).trans (hb1.mono yQ)).setCell yQ _).setCell yQ _).setCell yQ _).setCell yQ _))
theorem eRA (b:Nat) (hb:b < 256) (h:¬ opId b=0) (w:World) :
  Calls Tryz.prog 47 #[.int .u8 b] w fun e w'=>e=.returned (.agg #[.string (lAA b),.int .i64 (iAA b),.int .i64 (gDA (iAA b)),.int .i64 (kindN (lAA b).toList (iAA b))])/\Below w.heap.size w w':=
 uXA b hb (lAA b) (iAA b) (j_ (by rw[nTA b hb];rfl)) (j_ (bDB hb h)) (by rw[gHA hb];simpa using h) w
theorem aLA (b:Nat) (hb:b < 256) (w:World) :
  Calls Tryz.prog 47 #[.int .u8 b] w fun e w'=>e=.returned (.agg #[.string (lAA b),.int .i64 (iAA b),.int .i64 (sAA b),.int .i64 (eAA b)])/\Below w.heap.size w w':=by
 by_cases h:opId b=0
 ·have J:lAA b=⟨#[]⟩:=by simp[lAA,h,opTx]
  have e2:iAA b=-1:=by simp[iAA,h]
  have K:sAA b=0:=by simp[sAA,h]
  have O:eAA b=0:=by simp[eAA,zXA,h]
  rw[J,e2,K,O];exact dRA b hb h w
 ·have K:sAA b=gDA (iAA b):=by simp[sAA,h]
  have O:eAA b=kindN (lAA b).toList (iAA b):=by
   have he:(lAA b).data.toList.isEmpty=false:=by
    have:=gHA hb;have e:(lAA b).toList=(lAA b).data.toList:=ByteArray.toList_eq _;rw[e] at this;rw[this];simpa using h
   have hk:=yOA hb;rw[kindL,if_neg (by simp[he])] at hk;rw[ByteArray.toList_eq];exact hk.symm
  rw[K,O];exact eRA b hb h w

end Go.Proofs.YtckfdbjjjgfbfaaGreat
