import Derived.Test.YtckfdbjjjgfbfaaGreatVStepB
set_option linter.unusedVariables false
set_option linter.unusedSimpArgs false
set_option maxRecDepth 100000
namespace Go.Proofs.YtckfdbjjjgfbfaaGreat
open Go.RowKit
abbrev set6 (W:World) (B:Nat) (Q v6 v7 v8 v9 H:Value):World:=(((((W.setCell ⟨B,5,none⟩ Q).setCell ⟨B,6,none⟩ v6).setCell ⟨B,7,none⟩ v7).setCell ⟨B,8,none⟩ v8).setCell ⟨B,9,none⟩ v9).setCell ⟨B,10,none⟩ H
theorem fMA {W:World} {B:Nat} {t:TypeId} {a0 a1 a2 a3 a4 a5 a6 a7 a8 a9 b1:Value} (h:BoxN W B t #[a0,a1,a2,a3,a4,a5,a6,a7,a8,a9,b1]) (Q v6 v7 v8 v9 H:Value):BoxN (set6 W B Q v6 v7 v8 v9 H) B t #[a0,a1,a2,a3,a4,Q,v6,v7,v8,v9,H]:=by
 have r:BoxN _ B t #[a0,a1,a2,a3,a4,Q,a6,a7,a8,a9,b1]:=h.set 5 Q;have r:BoxN _ B t #[a0,a1,a2,a3,a4,Q,v6,a7,a8,a9,b1]:=r.set 6 v6;have r:BoxN _ B t #[a0,a1,a2,a3,a4,Q,v6,v7,a8,a9,b1]:=r.set 7 v7;have r:BoxN _ B t #[a0,a1,a2,a3,a4,Q,v6,v7,v8,a9,b1]:=r.set 8 v8;have r:BoxN _ B t #[a0,a1,a2,a3,a4,Q,v6,v7,v8,v9,b1]:=r.set 9 v9;exact r.set 10 H
theorem rJA {W:World} {B B':Nat} {t:TypeId} {cs:Array Value} (h:BoxN W B' t cs) (hn:B'≠B) (Q v6 v7 v8 v9 H:Value):BoxN (set6 W B Q v6 v7 v8 v9 H) B' t cs:=by
 have d:B' < B\/B+1<=B':=dQ;exact (((((h.span (Span.set _ B 5 Q) d).span (Span.set _ B 6 v6) d).span (Span.set _ B 7 v7) d).span (Span.set _ B 8 v8) d).span (Span.set _ B 9 v9) d).span (Span.set _ B 10 H) d
theorem pYA {w W:World} {n B:Nat} (h:Below n w W) (hn:n<=B) (Q v6 v7 v8 v9 H:Value):Below n w (set6 W B Q v6 v7 v8 v9 H):=
 (((((h.setCell hn _).setCell hn _).setCell hn _).setCell hn _).setCell hn _).setCell hn _
theorem nEA {w W w2:World} {n B B':Nat} {t t':TypeId} {a0 a1 a2 a3 a4 a5 a6 a7 a8 a9 b1 Q v6 v7 v8 v9 H:Value} {zs:Array Value} (hb:Below (set6 W B Q v6 v7 v8 v9 H).heap.size (set6 W B Q v6 v7 v8 v9 H) w2)
  (h:BoxN W B t #[a0,a1,a2,a3,a4,a5,a6,a7,a8,a9,b1]/\BoxN W B' t' zs/\Below n w W) (hne:B'≠B) (hn:n<=B) :
  BoxN w2 B t #[a0,a1,a2,a3,a4,Q,v6,v7,v8,v9,H]/\BoxN w2 B' t' zs/\Below n w w2:=by
 refine⟨(fMA h.1 Q v6 v7 v8 v9 H).below hb,(rJA h.2.1 hne Q v6 v7 v8 v9 H).below hb,(pYA h.2.2 hn Q v6 v7 v8 v9 H).trans (hb.mono ?_)⟩;have:=h.1.lt;simp;omega
theorem tDB (c:CpuN) (hc:c.ok) (w:World) :
  Calls Tryz.prog 81 #[cpuV c,.string ⟨#[84,88,65]⟩,.int .i64 0] w fun e w'=>e=.returned (cpuV (impL c [84,88,65] 0))/\Below w.heap.size w w':=by
 obtain⟨O,U,hY,T,R⟩:=hc;go_enter Tryz.func81,Tryz.ntmps81;go_wp2_with fail;refine (cBA _ _ _ _ _ _ _ _ dQ dQ).mono ?_;rintro e w1 ⟨rfl,hb⟩;obtain⟨j,z,l⟩:=vAA hb;obtain⟨g0,g1,g2,g3,g4,g5,g6,g7,g8,g9,g10,f0⟩:=eleven j;have K:=j_ (And.intro j (And.intro z l));clear j z l hb;go_wp2_with fail;refine (iAB ⟨c.A,c.X,c.Y,c.S,c.PC,bit7 (c.X:Int),c.V,c.D,c.I,isZ (c.X:Int),c.C⟩ _).mono ?_;rintro e w2 ⟨rfl,hb⟩;obtain⟨j,z,l⟩:=nEA hb K.out dQ (Nat.le_refl _);clear g0 g1 g2 g3 g4 g5 g6 g7 g8 g9 g10 f0 K;obtain⟨g0,g1,g2,g3,g4,g5,g6,g7,g8,g9,g10,f0⟩:=eleven j;obtain⟨h0,h1,h2,h3,h4,h5,h6,h7,h8,h9,h10,f1⟩:=eleven z;have E:=j_ l;clear j z l hb;go_wp2;refine bodyPost_ret (v:=cpuV (impL c [84,88,65] 0)) nQ rfl ⟨rfl,?_⟩;have hW:=E.out;all_goals exact aQ
theorem qDB (c:CpuN) (hc:c.ok) (w:World) :
  Calls Tryz.prog 81 #[cpuV c,.string ⟨#[84,65,88]⟩,.int .i64 0] w fun e w'=>e=.returned (cpuV (impL c [84,65,88] 0))/\Below w.heap.size w w':=by
 obtain⟨O,U,hY,T,R⟩:=hc;go_enter Tryz.func81,Tryz.ntmps81;go_wp2_with fail;refine (cBA _ _ _ _ _ _ _ _ dQ dQ).mono ?_;rintro e w1 ⟨rfl,hb⟩;obtain⟨j,z,l⟩:=vAA hb;obtain⟨g0,g1,g2,g3,g4,g5,g6,g7,g8,g9,g10,f0⟩:=eleven j;have K:=j_ (And.intro j (And.intro z l));clear j z l hb;go_wp2_with fail;refine (eAB ⟨c.A,c.X,c.Y,c.S,c.PC,bit7 (c.A:Int),c.V,c.D,c.I,isZ (c.A:Int),c.C⟩ _).mono ?_;rintro e w2 ⟨rfl,hb⟩;obtain⟨j,z,l⟩:=nEA hb K.out dQ (Nat.le_refl _);clear g0 g1 g2 g3 g4 g5 g6 g7 g8 g9 g10 f0 K;obtain⟨g0,g1,g2,g3,g4,g5,g6,g7,g8,g9,g10,f0⟩:=eleven j;obtain⟨h0,h1,h2,h3,h4,h5,h6,h7,h8,h9,h10,f1⟩:=eleven z;have E:=j_ l;clear j z l hb;go_wp2;refine bodyPost_ret (v:=cpuV (impL c [84,65,88] 0)) nQ rfl ⟨rfl,?_⟩;have hW:=E.out;all_goals exact aQ
theorem iDB (c:CpuN) (hc:c.ok) (w:World) :
  Calls Tryz.prog 81 #[cpuV c,.string ⟨#[68,69,88]⟩,.int .i64 0] w fun e w'=>e=.returned (cpuV (impL c [68,69,88] 0))/\Below w.heap.size w w':=by
 obtain⟨O,U,hY,T,R⟩:=hc;have hx:IntKind.u8.wrap ((c.X:Int) - 1)=(((c.X+255) % 256:Nat):Int):=by
  have:=u8_of ((c.X:Int) - 1);omega
 obtain⟨x,J⟩:∃ x,(c.X+255) % 256=x:=⟨_,rfl⟩;have b2:x < 256:=dQ;rw[J] at hx;have HX:=j_ J;clear J;go_enter Tryz.func81,Tryz.ntmps81;go_wp2_with fail;refine (cBA _ _ _ _ _ _ _ _ dQ dQ).mono ?_;rintro e w1 ⟨rfl,hb⟩;obtain⟨j,z,l⟩:=vAA hb;obtain⟨g0,g1,g2,g3,g4,g5,g6,g7,g8,g9,g10,f0⟩:=eleven j;have K:=j_ (And.intro j (And.intro z l));clear j z l hb;go_wp2_with fail;refine (wZA ⟨c.A,c.X,c.Y,c.S,c.PC,bit7 (x:Int),c.V,c.D,c.I,isZ (x:Int),c.C⟩ _).mono ?_;rintro e w2 ⟨rfl,hb⟩;obtain⟨j,z,l⟩:=nEA hb K.out dQ (Nat.le_refl _);clear g0 g1 g2 g3 g4 g5 g6 g7 g8 g9 g10 f0 K;obtain⟨g0,g1,g2,g3,g4,g5,g6,g7,g8,g9,g10,f0⟩:=eleven j;obtain⟨h0,h1,h2,h3,h4,h5,h6,h7,h8,h9,h10,f1⟩:=eleven z;have E:=j_ l;clear j z l hb;go_wp2;refine bodyPost_ret (v:=cpuV (impL c [68,69,88] 0)) nQa rfl ⟨rfl,?_⟩;have hW:=E.out;all_goals exact aQ
theorem mDB (c:CpuN) (hc:c.ok) (w:World) :
  Calls Tryz.prog 81 #[cpuV c,.string ⟨#[78,79,80]⟩,.int .i64 0] w fun e w'=>e=.returned (cpuV (impL c [78,79,80] 0))/\Below w.heap.size w w':=by
 obtain⟨O,U,hY,T,R⟩:=hc;go_enter Tryz.func81,Tryz.ntmps81;go_wp2_with fail;refine (aAB c _).mono ?_;rintro e w1 ⟨rfl,hb⟩;obtain⟨j,z,l⟩:=vAA hb;obtain⟨g0,g1,g2,g3,g4,g5,g6,g7,g8,g9,g10,f0⟩:=eleven j;obtain⟨h0,h1,h2,h3,h4,h5,h6,h7,h8,h9,h10,f1⟩:=eleven z;have E:=j_ l;clear j z l hb;go_wp2;refine bodyPost_ret (v:=cpuV (impL c [78,79,80] 0)) nQ rfl ⟨rfl,?_⟩;have hW:=E.out;all_goals exact aQ
theorem uDB (c:CpuN) (hc:c.ok) (w:World) :
  Calls Tryz.prog 81 #[cpuV c,.string ⟨#[84,88,83]⟩,.int .i64 0] w fun e w'=>e=.returned (cpuV (impL c [84,88,83] 0))/\Below w.heap.size w w':=by
 obtain⟨O,U,hY,T,R⟩:=hc;go_enter Tryz.func81,Tryz.ntmps81;go_wp2_with fail;refine (jAB c _).mono ?_;rintro e w1 ⟨rfl,hb⟩;obtain⟨j,z,l⟩:=vAA hb;obtain⟨g0,g1,g2,g3,g4,g5,g6,g7,g8,g9,g10,f0⟩:=eleven j;obtain⟨h0,h1,h2,h3,h4,h5,h6,h7,h8,h9,h10,f1⟩:=eleven z;have E:=j_ l;clear j z l hb;go_wp2;refine bodyPost_ret (v:=cpuV (impL c [84,88,83] 0)) nQ rfl ⟨rfl,?_⟩;have hW:=E.out;all_goals exact aQ
theorem sDB (c:CpuN) (hc:c.ok) (w:World) :
  Calls Tryz.prog 81 #[cpuV c,.string ⟨#[84,83,88]⟩,.int .i64 0] w fun e w'=>e=.returned (cpuV (impL c [84,83,88] 0))/\Below w.heap.size w w':=by
 obtain⟨O,U,hY,T,R⟩:=hc;go_enter Tryz.func81,Tryz.ntmps81;go_wp2_with fail;refine (cBA _ _ _ _ _ _ _ _ dQ dQ).mono ?_;rintro e w1 ⟨rfl,hb⟩;obtain⟨j,z,l⟩:=vAA hb;obtain⟨g0,g1,g2,g3,g4,g5,g6,g7,g8,g9,g10,f0⟩:=eleven j;have K:=j_ (And.intro j (And.intro z l));clear j z l hb;go_wp2_with fail;refine (gAB ⟨c.A,c.X,c.Y,c.S,c.PC,bit7 (c.S:Int),c.V,c.D,c.I,isZ (c.S:Int),c.C⟩ _).mono ?_;rintro e w2 ⟨rfl,hb⟩;obtain⟨j,z,l⟩:=nEA hb K.out dQ (Nat.le_refl _);clear g0 g1 g2 g3 g4 g5 g6 g7 g8 g9 g10 f0 K;obtain⟨g0,g1,g2,g3,g4,g5,g6,g7,g8,g9,g10,f0⟩:=eleven j;obtain⟨h0,h1,h2,h3,h4,h5,h6,h7,h8,h9,h10,f1⟩:=eleven z;have E:=j_ l;clear j z l hb;go_wp2;refine bodyPost_ret (v:=cpuV (impL c [84,83,88] 0)) nQ rfl ⟨rfl,?_⟩;have hW:=E.out;all_goals exact aQ
theorem jDB (c:CpuN) (hc:c.ok) (w:World) :
  Calls Tryz.prog 81 #[cpuV c,.string ⟨#[68,69,89]⟩,.int .i64 0] w fun e w'=>e=.returned (cpuV (impL c [68,69,89] 0))/\Below w.heap.size w w':=by
 obtain⟨O,U,hY,T,R⟩:=hc;have hx:IntKind.u8.wrap ((c.Y:Int) - 1)=(((c.Y+255) % 256:Nat):Int):=by
  have:=u8_of ((c.Y:Int) - 1);omega
 obtain⟨x,J⟩:∃ x,(c.Y+255) % 256=x:=⟨_,rfl⟩;have b2:x < 256:=dQ;rw[J] at hx;have HX:=j_ J;clear J;go_enter Tryz.func81,Tryz.ntmps81;go_wp2_with fail;refine (cBA _ _ _ _ _ _ _ _ dQ dQ).mono ?_;rintro e w1 ⟨rfl,hb⟩;obtain⟨j,z,l⟩:=vAA hb;obtain⟨g0,g1,g2,g3,g4,g5,g6,g7,g8,g9,g10,f0⟩:=eleven j;have K:=j_ (And.intro j (And.intro z l));clear j z l hb;go_wp2_with fail;refine (xZA ⟨c.A,c.X,c.Y,c.S,c.PC,bit7 (x:Int),c.V,c.D,c.I,isZ (x:Int),c.C⟩ _).mono ?_;rintro e w2 ⟨rfl,hb⟩;obtain⟨j,z,l⟩:=nEA hb K.out dQ (Nat.le_refl _);clear g0 g1 g2 g3 g4 g5 g6 g7 g8 g9 g10 f0 K;obtain⟨g0,g1,g2,g3,g4,g5,g6,g7,g8,g9,g10,f0⟩:=eleven j;obtain⟨h0,h1,h2,h3,h4,h5,h6,h7,h8,h9,h10,f1⟩:=eleven z;have E:=j_ l;clear j z l hb;go_wp2;refine bodyPost_ret (v:=cpuV (impL c [68,69,89] 0)) nQa rfl ⟨rfl,?_⟩;have hW:=E.out;all_goals exact aQ
theorem rDB (c:CpuN) (hc:c.ok) (w:World) :
  Calls Tryz.prog 81 #[cpuV c,.string ⟨#[84,65,89]⟩,.int .i64 0] w fun e w'=>e=.returned (cpuV (impL c [84,65,89] 0))/\Below w.heap.size w w':=by
 obtain⟨O,U,hY,T,R⟩:=hc;go_enter Tryz.func81,Tryz.ntmps81;go_wp2_with fail;refine (cBA _ _ _ _ _ _ _ _ dQ dQ).mono ?_;rintro e w1 ⟨rfl,hb⟩;obtain⟨j,z,l⟩:=vAA hb;obtain⟨g0,g1,g2,g3,g4,g5,g6,g7,g8,g9,g10,f0⟩:=eleven j;have K:=j_ (And.intro j (And.intro z l));clear j z l hb;go_wp2_with fail;refine (fAB ⟨c.A,c.X,c.Y,c.S,c.PC,bit7 (c.A:Int),c.V,c.D,c.I,isZ (c.A:Int),c.C⟩ _).mono ?_;rintro e w2 ⟨rfl,hb⟩;obtain⟨j,z,l⟩:=nEA hb K.out dQ (Nat.le_refl _);clear g0 g1 g2 g3 g4 g5 g6 g7 g8 g9 g10 f0 K;obtain⟨g0,g1,g2,g3,g4,g5,g6,g7,g8,g9,g10,f0⟩:=eleven j;obtain⟨h0,h1,h2,h3,h4,h5,h6,h7,h8,h9,h10,f1⟩:=eleven z;have E:=j_ l;clear j z l hb;go_wp2;refine bodyPost_ret (v:=cpuV (impL c [84,65,89] 0)) nQ rfl ⟨rfl,?_⟩;have hW:=E.out;all_goals exact aQ
theorem lDB (c:CpuN) (hc:c.ok) (w:World) :
  Calls Tryz.prog 81 #[cpuV c,.string ⟨#[73,78,89]⟩,.int .i64 0] w fun e w'=>e=.returned (cpuV (impL c [73,78,89] 0))/\Below w.heap.size w w':=by
 obtain⟨O,U,hY,T,R⟩:=hc;have hx:IntKind.u8.wrap ((c.Y:Int)+1)=(((c.Y+1) % 256:Nat):Int):=by
  have:=u8_of ((c.Y:Int)+1);omega
 obtain⟨x,J⟩:∃ x,(c.Y+1) % 256=x:=⟨_,rfl⟩;have b2:x < 256:=dQ;rw[J] at hx;have HX:=j_ J;clear J;go_enter Tryz.func81,Tryz.ntmps81;go_wp2_with fail;refine (cBA _ _ _ _ _ _ _ _ dQ dQ).mono ?_;rintro e w1 ⟨rfl,hb⟩;obtain⟨j,z,l⟩:=vAA hb;obtain⟨g0,g1,g2,g3,g4,g5,g6,g7,g8,g9,g10,f0⟩:=eleven j;have K:=j_ (And.intro j (And.intro z l));clear j z l hb;go_wp2_with fail;refine (zZA ⟨c.A,c.X,c.Y,c.S,c.PC,bit7 (x:Int),c.V,c.D,c.I,isZ (x:Int),c.C⟩ _).mono ?_;rintro e w2 ⟨rfl,hb⟩;obtain⟨j,z,l⟩:=nEA hb K.out dQ (Nat.le_refl _);clear g0 g1 g2 g3 g4 g5 g6 g7 g8 g9 g10 f0 K;obtain⟨g0,g1,g2,g3,g4,g5,g6,g7,g8,g9,g10,f0⟩:=eleven j;obtain⟨h0,h1,h2,h3,h4,h5,h6,h7,h8,h9,h10,f1⟩:=eleven z;have E:=j_ l;clear j z l hb;go_wp2;refine bodyPost_ret (v:=cpuV (impL c [73,78,89] 0)) nQa rfl ⟨rfl,?_⟩;have hW:=E.out;all_goals exact aQ
theorem kDB (c:CpuN) (hc:c.ok) (w:World) :
  Calls Tryz.prog 81 #[cpuV c,.string ⟨#[73,78,88]⟩,.int .i64 0] w fun e w'=>e=.returned (cpuV (impL c [73,78,88] 0))/\Below w.heap.size w w':=by
 obtain⟨O,U,hY,T,R⟩:=hc;have hx:IntKind.u8.wrap ((c.X:Int)+1)=(((c.X+1) % 256:Nat):Int):=by
  have:=u8_of ((c.X:Int)+1);omega
 obtain⟨x,J⟩:∃ x,(c.X+1) % 256=x:=⟨_,rfl⟩;have b2:x < 256:=dQ;rw[J] at hx;have HX:=j_ J;clear J;go_enter Tryz.func81,Tryz.ntmps81;go_wp2_with fail;refine (cBA _ _ _ _ _ _ _ _ dQ dQ).mono ?_;rintro e w1 ⟨rfl,hb⟩;obtain⟨j,z,l⟩:=vAA hb;obtain⟨g0,g1,g2,g3,g4,g5,g6,g7,g8,g9,g10,f0⟩:=eleven j;have K:=j_ (And.intro j (And.intro z l));clear j z l hb;go_wp2_with fail;refine (yZA ⟨c.A,c.X,c.Y,c.S,c.PC,bit7 (x:Int),c.V,c.D,c.I,isZ (x:Int),c.C⟩ _).mono ?_;rintro e w2 ⟨rfl,hb⟩;obtain⟨j,z,l⟩:=nEA hb K.out dQ (Nat.le_refl _);clear g0 g1 g2 g3 g4 g5 g6 g7 g8 g9 g10 f0 K;obtain⟨g0,g1,g2,g3,g4,g5,g6,g7,g8,g9,g10,f0⟩:=eleven j;obtain⟨h0,h1,h2,h3,h4,h5,h6,h7,h8,h9,h10,f1⟩:=eleven z;have E:=j_ l;clear j z l hb;go_wp2;refine bodyPost_ret (v:=cpuV (impL c [73,78,88] 0)) nQa rfl ⟨rfl,?_⟩;have hW:=E.out;all_goals exact aQ
theorem eDB (c:CpuN) (hc:c.ok) (w:World) :
  Calls Tryz.prog 81 #[cpuV c,.string ⟨#[67,76,67]⟩,.int .i64 0] w fun e w'=>e=.returned (cpuV (impL c [67,76,67] 0))/\Below w.heap.size w w':=by
 obtain⟨O,U,hY,T,R⟩:=hc;go_enter Tryz.func81,Tryz.ntmps81;go_wp2_with fail;refine (sZA c _).mono ?_;rintro e w1 ⟨rfl,hb⟩;obtain⟨j,z,l⟩:=vAA hb;obtain⟨g0,g1,g2,g3,g4,g5,g6,g7,g8,g9,g10,f0⟩:=eleven j;obtain⟨h0,h1,h2,h3,h4,h5,h6,h7,h8,h9,h10,f1⟩:=eleven z;have E:=j_ l;clear j z l hb;go_wp2;refine bodyPost_ret (v:=cpuV (impL c [67,76,67] 0)) nQ rfl ⟨rfl,?_⟩;have hW:=E.out;all_goals exact aQ
theorem nDB (c:CpuN) (hc:c.ok) (w:World) :
  Calls Tryz.prog 81 #[cpuV c,.string ⟨#[83,69,67]⟩,.int .i64 0] w fun e w'=>e=.returned (cpuV (impL c [83,69,67] 0))/\Below w.heap.size w w':=by
 obtain⟨O,U,hY,T,R⟩:=hc;go_enter Tryz.func81,Tryz.ntmps81;go_wp2_with fail;refine (bAB c _).mono ?_;rintro e w1 ⟨rfl,hb⟩;obtain⟨j,z,l⟩:=vAA hb;obtain⟨g0,g1,g2,g3,g4,g5,g6,g7,g8,g9,g10,f0⟩:=eleven j;obtain⟨h0,h1,h2,h3,h4,h5,h6,h7,h8,h9,h10,f1⟩:=eleven z;have E:=j_ l;clear j z l hb;go_wp2;refine bodyPost_ret (v:=cpuV (impL c [83,69,67] 0)) nQ rfl ⟨rfl,?_⟩;have hW:=E.out;all_goals exact aQ
theorem gDB (c:CpuN) (hc:c.ok) (w:World) :
  Calls Tryz.prog 81 #[cpuV c,.string ⟨#[67,76,73]⟩,.int .i64 0] w fun e w'=>e=.returned (cpuV (impL c [67,76,73] 0))/\Below w.heap.size w w':=by
 obtain⟨O,U,hY,T,R⟩:=hc;go_enter Tryz.func81,Tryz.ntmps81;go_wp2_with fail;refine (uZA c _).mono ?_;rintro e w1 ⟨rfl,hb⟩;obtain⟨j,z,l⟩:=vAA hb;obtain⟨g0,g1,g2,g3,g4,g5,g6,g7,g8,g9,g10,f0⟩:=eleven j;obtain⟨h0,h1,h2,h3,h4,h5,h6,h7,h8,h9,h10,f1⟩:=eleven z;have E:=j_ l;clear j z l hb;go_wp2;refine bodyPost_ret (v:=cpuV (impL c [67,76,73] 0)) nQ rfl ⟨rfl,?_⟩;have hW:=E.out;all_goals exact aQ
theorem pDB (c:CpuN) (hc:c.ok) (w:World) :
  Calls Tryz.prog 81 #[cpuV c,.string ⟨#[83,69,73]⟩,.int .i64 0] w fun e w'=>e=.returned (cpuV (impL c [83,69,73] 0))/\Below w.heap.size w w':=by
 obtain⟨O,U,hY,T,R⟩:=hc;go_enter Tryz.func81,Tryz.ntmps81;go_wp2_with fail;refine (dAB c _).mono ?_;rintro e w1 ⟨rfl,hb⟩;obtain⟨j,z,l⟩:=vAA hb;obtain⟨g0,g1,g2,g3,g4,g5,g6,g7,g8,g9,g10,f0⟩:=eleven j;obtain⟨h0,h1,h2,h3,h4,h5,h6,h7,h8,h9,h10,f1⟩:=eleven z;have E:=j_ l;clear j z l hb;go_wp2;refine bodyPost_ret (v:=cpuV (impL c [83,69,73] 0)) nQ rfl ⟨rfl,?_⟩;have hW:=E.out;all_goals exact aQ
theorem vDB (c:CpuN) (hc:c.ok) (w:World) :
  Calls Tryz.prog 81 #[cpuV c,.string ⟨#[84,89,65]⟩,.int .i64 0] w fun e w'=>e=.returned (cpuV (impL c [84,89,65] 0))/\Below w.heap.size w w':=by
 obtain⟨O,U,hY,T,R⟩:=hc;go_enter Tryz.func81,Tryz.ntmps81;go_wp2_with fail;refine (cBA _ _ _ _ _ _ _ _ dQ dQ).mono ?_;rintro e w1 ⟨rfl,hb⟩;obtain⟨j,z,l⟩:=vAA hb;obtain⟨g0,g1,g2,g3,g4,g5,g6,g7,g8,g9,g10,f0⟩:=eleven j;have K:=j_ (And.intro j (And.intro z l));clear j z l hb;go_wp2_with fail;refine (kAB ⟨c.A,c.X,c.Y,c.S,c.PC,bit7 (c.Y:Int),c.V,c.D,c.I,isZ (c.Y:Int),c.C⟩ _).mono ?_;rintro e w2 ⟨rfl,hb⟩;obtain⟨j,z,l⟩:=nEA hb K.out dQ (Nat.le_refl _);clear g0 g1 g2 g3 g4 g5 g6 g7 g8 g9 g10 f0 K;obtain⟨g0,g1,g2,g3,g4,g5,g6,g7,g8,g9,g10,f0⟩:=eleven j;obtain⟨h0,h1,h2,h3,h4,h5,h6,h7,h8,h9,h10,f1⟩:=eleven z;have E:=j_ l;clear j z l hb;go_wp2;refine bodyPost_ret (v:=cpuV (impL c [84,89,65] 0)) nQ rfl ⟨rfl,?_⟩;have hW:=E.out;all_goals exact aQ
theorem hDB (c:CpuN) (hc:c.ok) (w:World) :
  Calls Tryz.prog 81 #[cpuV c,.string ⟨#[67,76,86]⟩,.int .i64 0] w fun e w'=>e=.returned (cpuV (impL c [67,76,86] 0))/\Below w.heap.size w w':=by
 obtain⟨O,U,hY,T,R⟩:=hc;go_enter Tryz.func81,Tryz.ntmps81;go_wp2_with fail;refine (vZA c _).mono ?_;rintro e w1 ⟨rfl,hb⟩;obtain⟨j,z,l⟩:=vAA hb;obtain⟨g0,g1,g2,g3,g4,g5,g6,g7,g8,g9,g10,f0⟩:=eleven j;obtain⟨h0,h1,h2,h3,h4,h5,h6,h7,h8,h9,h10,f1⟩:=eleven z;have E:=j_ l;clear j z l hb;go_wp2;refine bodyPost_ret (v:=cpuV (impL c [67,76,86] 0)) nQ rfl ⟨rfl,?_⟩;have hW:=E.out;all_goals exact aQ
theorem fDB (c:CpuN) (hc:c.ok) (w:World) :
  Calls Tryz.prog 81 #[cpuV c,.string ⟨#[67,76,68]⟩,.int .i64 0] w fun e w'=>e=.returned (cpuV (impL c [67,76,68] 0))/\Below w.heap.size w w':=by
 obtain⟨O,U,hY,T,R⟩:=hc;go_enter Tryz.func81,Tryz.ntmps81;go_wp2_with fail;refine (tZA c _).mono ?_;rintro e w1 ⟨rfl,hb⟩;obtain⟨j,z,l⟩:=vAA hb;obtain⟨g0,g1,g2,g3,g4,g5,g6,g7,g8,g9,g10,f0⟩:=eleven j;obtain⟨h0,h1,h2,h3,h4,h5,h6,h7,h8,h9,h10,f1⟩:=eleven z;have E:=j_ l;clear j z l hb;go_wp2;refine bodyPost_ret (v:=cpuV (impL c [67,76,68] 0)) nQ rfl ⟨rfl,?_⟩;have hW:=E.out;all_goals exact aQ
theorem oDB (c:CpuN) (hc:c.ok) (w:World) :
  Calls Tryz.prog 81 #[cpuV c,.string ⟨#[83,69,68]⟩,.int .i64 0] w fun e w'=>e=.returned (cpuV (impL c [83,69,68] 0))/\Below w.heap.size w w':=by
 obtain⟨O,U,hY,T,R⟩:=hc;go_enter Tryz.func81,Tryz.ntmps81;go_wp2_with fail;refine (cAB c _).mono ?_;rintro e w1 ⟨rfl,hb⟩;obtain⟨j,z,l⟩:=vAA hb;obtain⟨g0,g1,g2,g3,g4,g5,g6,g7,g8,g9,g10,f0⟩:=eleven j;obtain⟨h0,h1,h2,h3,h4,h5,h6,h7,h8,h9,h10,f1⟩:=eleven z;have E:=j_ l;clear j z l hb;go_wp2;refine bodyPost_ret (v:=cpuV (impL c [83,69,68] 0)) nQ rfl ⟨rfl,?_⟩;have hW:=E.out;all_goals exact aQ
theorem acc_ASL (c:CpuN) (hc:c.ok) (w:World) :
  Calls Tryz.prog 81 #[cpuV c,.string ⟨#[65,83,76]⟩,.int .i64 1] w fun e w'=>e=.returned (cpuV (impL c [65,83,76] 1))/\Below w.heap.size w w':=by
 obtain⟨O,U,hY,T,R⟩:=hc;go_enter Tryz.func81,Tryz.ntmps81;go_wp2_with fail;refine (gTA c c.A O _).mono ?_;rintro e w1 ⟨rfl,hb⟩;obtain⟨j,z,l⟩:=vAA hb;obtain⟨g0,g1,g2,g3,g4,g5,g6,g7,g8,g9,g10,f0⟩:=eleven j;obtain⟨h0,h1,h2,h3,h4,h5,h6,h7,h8,h9,h10,f1⟩:=eleven z;have E:=j_ l;clear j z l hb;go_wp2;refine bodyPost_ret (v:=cpuV (impL c [65,83,76] 1)) nQ rfl ⟨rfl,?_⟩;have hW:=E.out;all_goals exact aQ
theorem acc_ROL (c:CpuN) (hc:c.ok) (w:World) :
  Calls Tryz.prog 81 #[cpuV c,.string ⟨#[82,79,76]⟩,.int .i64 1] w fun e w'=>e=.returned (cpuV (impL c [82,79,76] 1))/\Below w.heap.size w w':=by
 obtain⟨O,U,hY,T,R⟩:=hc;go_enter Tryz.func81,Tryz.ntmps81;go_wp2_with fail;refine (iTA c c.A O _).mono ?_;rintro e w1 ⟨rfl,hb⟩;obtain⟨j,z,l⟩:=vAA hb;obtain⟨g0,g1,g2,g3,g4,g5,g6,g7,g8,g9,g10,f0⟩:=eleven j;obtain⟨h0,h1,h2,h3,h4,h5,h6,h7,h8,h9,h10,f1⟩:=eleven z;have E:=j_ l;clear j z l hb;go_wp2;refine bodyPost_ret (v:=cpuV (impL c [82,79,76] 1)) nQ rfl ⟨rfl,?_⟩;have hW:=E.out;all_goals exact aQ
theorem acc_LSR (c:CpuN) (hc:c.ok) (w:World) :
  Calls Tryz.prog 81 #[cpuV c,.string ⟨#[76,83,82]⟩,.int .i64 1] w fun e w'=>e=.returned (cpuV (impL c [76,83,82] 1))/\Below w.heap.size w w':=by
 obtain⟨O,U,hY,T,R⟩:=hc;go_enter Tryz.func81,Tryz.ntmps81;go_wp2_with fail;refine (hTA c c.A O _).mono ?_;rintro e w1 ⟨rfl,hb⟩;obtain⟨j,z,l⟩:=vAA hb;obtain⟨g0,g1,g2,g3,g4,g5,g6,g7,g8,g9,g10,f0⟩:=eleven j;obtain⟨h0,h1,h2,h3,h4,h5,h6,h7,h8,h9,h10,f1⟩:=eleven z;have E:=j_ l;clear j z l hb;go_wp2;refine bodyPost_ret (v:=cpuV (impL c [76,83,82] 1)) nQ rfl ⟨rfl,?_⟩;have hW:=E.out;all_goals exact aQ
theorem acc_ROR (c:CpuN) (hc:c.ok) (w:World) :
  Calls Tryz.prog 81 #[cpuV c,.string ⟨#[82,79,82]⟩,.int .i64 1] w fun e w'=>e=.returned (cpuV (impL c [82,79,82] 1))/\Below w.heap.size w w':=by
 obtain⟨O,U,hY,T,R⟩:=hc;go_enter Tryz.func81,Tryz.ntmps81;go_wp2_with fail;refine (jTA c c.A O _).mono ?_;rintro e w1 ⟨rfl,hb⟩;obtain⟨j,z,l⟩:=vAA hb;obtain⟨g0,g1,g2,g3,g4,g5,g6,g7,g8,g9,g10,f0⟩:=eleven j;obtain⟨h0,h1,h2,h3,h4,h5,h6,h7,h8,h9,h10,f1⟩:=eleven z;have E:=j_ l;clear j z l hb;go_wp2;refine bodyPost_ret (v:=cpuV (impL c [82,79,82] 1)) nQ rfl ⟨rfl,?_⟩;have hW:=E.out;all_goals exact aQ
theorem imp_any (i:Nat) (hi:i ∈ [17,18,19,20,21,22,37,38,39,40,49,50,51,52,53,54,55,56]) (c:CpuN) (hc:c.ok) (w:World) :
  Calls Tryz.prog 81 #[cpuV c,.string (opTx i),.int .i64 0] w fun e w'=>e=.returned (cpuV (impL c (opTx i).toList 0))/\Below w.heap.size w w':=by
 simp only[List.mem_cons,List.not_mem_nil,or_false] at hi;rcases hi with rfl|rfl|rfl|rfl|rfl|rfl|rfl|rfl|rfl|rfl|rfl|rfl|rfl|rfl|rfl|rfl|rfl|rfl
 ·rw[show (opTx 17).toList=[84,88,65] by rw[ByteArray.toList_eq];rfl];exact tDB c hc w
 ·rw[show (opTx 18).toList=[84,65,88] by rw[ByteArray.toList_eq];rfl];exact qDB c hc w
 ·rw[show (opTx 19).toList=[68,69,88] by rw[ByteArray.toList_eq];rfl];exact iDB c hc w
 ·rw[show (opTx 20).toList=[78,79,80] by rw[ByteArray.toList_eq];rfl];exact mDB c hc w
 ·rw[show (opTx 21).toList=[84,88,83] by rw[ByteArray.toList_eq];rfl];exact uDB c hc w
 ·rw[show (opTx 22).toList=[84,83,88] by rw[ByteArray.toList_eq];rfl];exact sDB c hc w
 ·rw[show (opTx 37).toList=[68,69,89] by rw[ByteArray.toList_eq];rfl];exact jDB c hc w
 ·rw[show (opTx 38).toList=[84,65,89] by rw[ByteArray.toList_eq];rfl];exact rDB c hc w
 ·rw[show (opTx 39).toList=[73,78,89] by rw[ByteArray.toList_eq];rfl];exact lDB c hc w
 ·rw[show (opTx 40).toList=[73,78,88] by rw[ByteArray.toList_eq];rfl];exact kDB c hc w
 ·rw[show (opTx 49).toList=[67,76,67] by rw[ByteArray.toList_eq];rfl];exact eDB c hc w
 ·rw[show (opTx 50).toList=[83,69,67] by rw[ByteArray.toList_eq];rfl];exact nDB c hc w
 ·rw[show (opTx 51).toList=[67,76,73] by rw[ByteArray.toList_eq];rfl];exact gDB c hc w
 ·rw[show (opTx 52).toList=[83,69,73] by rw[ByteArray.toList_eq];rfl];exact pDB c hc w
 ·rw[show (opTx 53).toList=[84,89,65] by rw[ByteArray.toList_eq];rfl];exact vDB c hc w
 ·rw[show (opTx 54).toList=[67,76,86] by rw[ByteArray.toList_eq];rfl];exact hDB c hc w
 ·rw[show (opTx 55).toList=[67,76,68] by rw[ByteArray.toList_eq];rfl];exact fDB c hc w
 ·rw[show (opTx 56).toList=[83,69,68] by rw[ByteArray.toList_eq];rfl];exact oDB c hc w
theorem acc_any (i:Nat) (hi:i ∈ [9,10,11,12]) (c:CpuN) (hc:c.ok) (w:World) :
  Calls Tryz.prog 81 #[cpuV c,.string (opTx i),.int .i64 1] w fun e w'=>e=.returned (cpuV (impL c (opTx i).toList 1))/\Below w.heap.size w w':=by
 simp only[List.mem_cons,List.not_mem_nil,or_false] at hi;rcases hi with rfl|rfl|rfl|rfl
 ·rw[show (opTx 9).toList=[65,83,76] by rw[ByteArray.toList_eq];rfl];exact acc_ASL c hc w
 ·rw[show (opTx 10).toList=[82,79,76] by rw[ByteArray.toList_eq];rfl];exact acc_ROL c hc w
 ·rw[show (opTx 11).toList=[76,83,82] by rw[ByteArray.toList_eq];rfl];exact acc_LSR c hc w
 ·rw[show (opTx 12).toList=[82,79,82] by rw[ByteArray.toList_eq];rfl];exact acc_ROR c hc w

end Go.Proofs.YtckfdbjjjgfbfaaGreat
