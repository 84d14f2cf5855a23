import Derived.Test.YtckfdbjjjgfbfaaGreatVStepA
set_option linter.unusedVariables false
set_option linter.unusedSimpArgs false
set_option maxRecDepth 100000
namespace Go.Proofs.YtckfdbjjjgfbfaaGreat
open Go.RowKit
theorem u8_of (x:Int):IntKind.u8.wrap x=x % 256:=vQg
theorem tDA (x:Int):IntKind.u16.wrap x=x % 65536:=vQg
theorem gTA (c:CpuN) (m:Nat) (B:m < 256) (w:World) :
  Calls Tryz.prog 108 #[.string ⟨#[65,83,76]⟩,.int .u8 m,.agg #[.bool c.N,.bool c.V,.bool c.D,.bool c.I,.bool c.Z,.bool c.C]] w fun e w'=>e=.returned (.tuple #[.int .u8 (chgB [65,83,76] m c.C:Nat),.agg #[.bool (c.chg [65,83,76] m).N,.bool (c.chg [65,83,76] m).V,.bool (c.chg [65,83,76] m).D,.bool (c.chg [65,83,76] m).I,.bool (c.chg [65,83,76] m).Z,.bool (c.chg [65,83,76] m).C]])/\Below w.heap.size w w':=by
 obtain⟨x,hx⟩:=dDA (zBA (m:Int) true false dQ dQ).1;go_enter Tryz.func108,Tryz.ntmps108;go_wp2_with fail;refine (yRA _ _ _ _ _ _ _ dQ dQ _).mono ?_;rintro e H ⟨rfl,hb⟩;obtain⟨r,z,l⟩:=vAA hb;obtain⟨g0,g1,g2,g3,g4,g5,f0⟩:=six r;obtain⟨h0,h1,h2,h3,h4,h5,f1⟩:=six z;have j:=j_ l;clear r z l hb;go_wp2;refine bodyPost_ret (v:=.tuple #[.int .u8 (chgB [65,83,76] m c.C:Nat),.agg #[.bool (c.chg [65,83,76] m).N,.bool (c.chg [65,83,76] m).V,.bool (c.chg [65,83,76] m).D,.bool (c.chg [65,83,76] m).I,.bool (c.chg [65,83,76] m).Z,.bool (c.chg [65,83,76] m).C]]) vQb rfl ⟨rfl,?_⟩;have hW:=j.out;all_goals exact aQ
theorem iTA (c:CpuN) (m:Nat) (B:m < 256) (w:World) :
  Calls Tryz.prog 108 #[.string ⟨#[82,79,76]⟩,.int .u8 m,.agg #[.bool c.N,.bool c.V,.bool c.D,.bool c.I,.bool c.Z,.bool c.C]] w fun e w'=>e=.returned (.tuple #[.int .u8 (chgB [82,79,76] m c.C:Nat),.agg #[.bool (c.chg [82,79,76] m).N,.bool (c.chg [82,79,76] m).V,.bool (c.chg [82,79,76] m).D,.bool (c.chg [82,79,76] m).I,.bool (c.chg [82,79,76] m).Z,.bool (c.chg [82,79,76] m).C]])/\Below w.heap.size w w':=by
 obtain⟨x,hx⟩:=dDA (zBA (m:Int) true c.C dQ dQ).1;go_enter Tryz.func108,Tryz.ntmps108;go_wp2_with fail;refine (eSA _ _ _ _ _ _ _ dQ dQ _).mono ?_;rintro e H ⟨rfl,hb⟩;obtain⟨r,z,l⟩:=vAA hb;obtain⟨g0,g1,g2,g3,g4,g5,f0⟩:=six r;obtain⟨h0,h1,h2,h3,h4,h5,f1⟩:=six z;have j:=j_ l;clear r z l hb;go_wp2;refine bodyPost_ret (v:=.tuple #[.int .u8 (chgB [82,79,76] m c.C:Nat),.agg #[.bool (c.chg [82,79,76] m).N,.bool (c.chg [82,79,76] m).V,.bool (c.chg [82,79,76] m).D,.bool (c.chg [82,79,76] m).I,.bool (c.chg [82,79,76] m).Z,.bool (c.chg [82,79,76] m).C]]) vQb rfl ⟨rfl,?_⟩;have hW:=j.out;all_goals exact aQ
theorem hTA (c:CpuN) (m:Nat) (B:m < 256) (w:World) :
  Calls Tryz.prog 108 #[.string ⟨#[76,83,82]⟩,.int .u8 m,.agg #[.bool c.N,.bool c.V,.bool c.D,.bool c.I,.bool c.Z,.bool c.C]] w fun e w'=>e=.returned (.tuple #[.int .u8 (chgB [76,83,82] m c.C:Nat),.agg #[.bool (c.chg [76,83,82] m).N,.bool (c.chg [76,83,82] m).V,.bool (c.chg [76,83,82] m).D,.bool (c.chg [76,83,82] m).I,.bool (c.chg [76,83,82] m).Z,.bool (c.chg [76,83,82] m).C]])/\Below w.heap.size w w':=by
 obtain⟨x,hx⟩:=dDA (zBA (m:Int) false false dQ dQ).1;go_enter Tryz.func108,Tryz.ntmps108;go_wp2_with fail;refine (bSA _ _ _ _ _ _ _ dQ dQ _).mono ?_;rintro e H ⟨rfl,hb⟩;obtain⟨r,z,l⟩:=vAA hb;obtain⟨g0,g1,g2,g3,g4,g5,f0⟩:=six r;obtain⟨h0,h1,h2,h3,h4,h5,f1⟩:=six z;have j:=j_ l;clear r z l hb;go_wp2;refine bodyPost_ret (v:=.tuple #[.int .u8 (chgB [76,83,82] m c.C:Nat),.agg #[.bool (c.chg [76,83,82] m).N,.bool (c.chg [76,83,82] m).V,.bool (c.chg [76,83,82] m).D,.bool (c.chg [76,83,82] m).I,.bool (c.chg [76,83,82] m).Z,.bool (c.chg [76,83,82] m).C]]) vQb rfl ⟨rfl,?_⟩;have hW:=j.out;all_goals exact aQ
theorem jTA (c:CpuN) (m:Nat) (B:m < 256) (w:World) :
  Calls Tryz.prog 108 #[.string ⟨#[82,79,82]⟩,.int .u8 m,.agg #[.bool c.N,.bool c.V,.bool c.D,.bool c.I,.bool c.Z,.bool c.C]] w fun e w'=>e=.returned (.tuple #[.int .u8 (chgB [82,79,82] m c.C:Nat),.agg #[.bool (c.chg [82,79,82] m).N,.bool (c.chg [82,79,82] m).V,.bool (c.chg [82,79,82] m).D,.bool (c.chg [82,79,82] m).I,.bool (c.chg [82,79,82] m).Z,.bool (c.chg [82,79,82] m).C]])/\Below w.heap.size w w':=by
 obtain⟨x,hx⟩:=dDA (zBA (m:Int) false c.C dQ dQ).1;go_enter Tryz.func108,Tryz.ntmps108;go_wp2_with fail;refine (fSA _ _ _ _ _ _ _ dQ dQ _).mono ?_;rintro e H ⟨rfl,hb⟩;obtain⟨r,z,l⟩:=vAA hb;obtain⟨g0,g1,g2,g3,g4,g5,f0⟩:=six r;obtain⟨h0,h1,h2,h3,h4,h5,f1⟩:=six z;have j:=j_ l;clear r z l hb;go_wp2;refine bodyPost_ret (v:=.tuple #[.int .u8 (chgB [82,79,82] m c.C:Nat),.agg #[.bool (c.chg [82,79,82] m).N,.bool (c.chg [82,79,82] m).V,.bool (c.chg [82,79,82] m).D,.bool (c.chg [82,79,82] m).I,.bool (c.chg [82,79,82] m).Z,.bool (c.chg [82,79,82] m).C]]) vQb rfl ⟨rfl,?_⟩;have hW:=j.out;all_goals exact aQ
theorem uCB (c:CpuN) (m:Nat) (B:m < 256) (w:World) :
  Calls Tryz.prog 108 #[.string ⟨#[68,69,67]⟩,.int .u8 m,.agg #[.bool c.N,.bool c.V,.bool c.D,.bool c.I,.bool c.Z,.bool c.C]] w fun e w'=>e=.returned (.tuple #[.int .u8 (chgB [68,69,67] m c.C:Nat),.agg #[.bool (c.chg [68,69,67] m).N,.bool (c.chg [68,69,67] m).V,.bool (c.chg [68,69,67] m).D,.bool (c.chg [68,69,67] m).I,.bool (c.chg [68,69,67] m).Z,.bool (c.chg [68,69,67] m).C]])/\Below w.heap.size w w':=by
 have hx:IntKind.u8.wrap ((m:Int) - 1)=(((m+255) % 256:Nat):Int):=by
  have:=u8_of ((m:Int) - 1);omega
 obtain⟨x,E⟩:∃ x,(m+255) % 256=x:=⟨_,rfl⟩;have J:x < 256:=dQ;rw[E] at hx;have HX:=j_ E;clear E;go_enter Tryz.func108,Tryz.ntmps108;go_wp2_with fail;refine (cBA _ _ _ _ _ _ _ _ dQ dQ).mono ?_;rintro e H ⟨rfl,hb⟩;obtain⟨r,z,l⟩:=vAA hb;obtain⟨g0,g1,g2,g3,g4,g5,f0⟩:=six r;obtain⟨h0,h1,h2,h3,h4,h5,f1⟩:=six z;have j:=j_ l;clear r z l hb;go_wp2;refine bodyPost_ret (v:=.tuple #[.int .u8 (chgB [68,69,67] m c.C:Nat),.agg #[.bool (c.chg [68,69,67] m).N,.bool (c.chg [68,69,67] m).V,.bool (c.chg [68,69,67] m).D,.bool (c.chg [68,69,67] m).I,.bool (c.chg [68,69,67] m).Z,.bool (c.chg [68,69,67] m).C]]) (by simp[results,Tryz.results108,go_sem,g0,g1,g2,g3,g4,g5,h0,h1,h2,h3,h4,h5,CpuN.chg,chgB,chgC,HX.out]) rfl ⟨rfl,?_⟩;have hW:=j.out;all_goals exact aQ
theorem vCB (c:CpuN) (m:Nat) (B:m < 256) (w:World) :
  Calls Tryz.prog 108 #[.string ⟨#[73,78,67]⟩,.int .u8 m,.agg #[.bool c.N,.bool c.V,.bool c.D,.bool c.I,.bool c.Z,.bool c.C]] w fun e w'=>e=.returned (.tuple #[.int .u8 (chgB [73,78,67] m c.C:Nat),.agg #[.bool (c.chg [73,78,67] m).N,.bool (c.chg [73,78,67] m).V,.bool (c.chg [73,78,67] m).D,.bool (c.chg [73,78,67] m).I,.bool (c.chg [73,78,67] m).Z,.bool (c.chg [73,78,67] m).C]])/\Below w.heap.size w w':=by
 have hx:IntKind.u8.wrap ((m:Int)+1)=(((m+1) % 256:Nat):Int):=by
  have:=u8_of ((m:Int)+1);omega
 obtain⟨x,E⟩:∃ x,(m+1) % 256=x:=⟨_,rfl⟩;have J:x < 256:=dQ;rw[E] at hx;have HX:=j_ E;clear E;go_enter Tryz.func108,Tryz.ntmps108;go_wp2_with fail;refine (cBA _ _ _ _ _ _ _ _ dQ dQ).mono ?_;rintro e H ⟨rfl,hb⟩;obtain⟨r,z,l⟩:=vAA hb;obtain⟨g0,g1,g2,g3,g4,g5,f0⟩:=six r;obtain⟨h0,h1,h2,h3,h4,h5,f1⟩:=six z;have j:=j_ l;clear r z l hb;go_wp2;refine bodyPost_ret (v:=.tuple #[.int .u8 (chgB [73,78,67] m c.C:Nat),.agg #[.bool (c.chg [73,78,67] m).N,.bool (c.chg [73,78,67] m).V,.bool (c.chg [73,78,67] m).D,.bool (c.chg [73,78,67] m).I,.bool (c.chg [73,78,67] m).Z,.bool (c.chg [73,78,67] m).C]]) (by simp[results,Tryz.results108,go_sem,g0,g1,g2,g3,g4,g5,h0,h1,h2,h3,h4,h5,CpuN.chg,chgB,chgC,HX.out]) rfl ⟨rfl,?_⟩;have hW:=j.out;all_goals exact aQ
theorem wCB (i:Nat) (hi:i ∈ [9,10,11,12,15,16]) (c:CpuN) (m:Nat) (B:m < 256) (w:World) :
  Calls Tryz.prog 108 #[.string (opTx i),.int .u8 m,.agg #[.bool c.N,.bool c.V,.bool c.D,.bool c.I,.bool c.Z,.bool c.C]] w fun e w'=>e=.returned (.tuple #[.int .u8 (chgB (opTx i).toList m c.C:Nat),.agg #[.bool (c.chg (opTx i).toList m).N,.bool (c.chg (opTx i).toList m).V,.bool (c.chg (opTx i).toList m).D,.bool (c.chg (opTx i).toList m).I,.bool (c.chg (opTx i).toList m).Z,.bool (c.chg (opTx i).toList m).C]])/\Below w.heap.size w w':=by
 simp only[List.mem_cons,List.not_mem_nil,or_false] at hi;rcases hi with rfl|rfl|rfl|rfl|rfl|rfl
 ·rw[show (opTx 9).toList=[65,83,76] by rw[ByteArray.toList_eq];rfl];exact gTA c m B w
 ·rw[show (opTx 10).toList=[82,79,76] by rw[ByteArray.toList_eq];rfl];exact iTA c m B w
 ·rw[show (opTx 11).toList=[76,83,82] by rw[ByteArray.toList_eq];rfl];exact hTA c m B w
 ·rw[show (opTx 12).toList=[82,79,82] by rw[ByteArray.toList_eq];rfl];exact jTA c m B w
 ·rw[show (opTx 15).toList=[68,69,67] by rw[ByteArray.toList_eq];rfl];exact uCB c m B w
 ·rw[show (opTx 16).toList=[73,78,67] by rw[ByteArray.toList_eq];rfl];exact vCB c m B w
theorem iAB (c:CpuN) (w:World) :
  Calls Tryz.prog 110 #[.agg #[.bool c.N,.bool c.V,.bool c.D,.bool c.I,.bool c.Z,.bool c.C],.string ⟨#[84,88,65]⟩] w fun e w'=>e=.returned (.agg #[.bool (flagL c [84,88,65]).N,.bool (flagL c [84,88,65]).V,.bool (flagL c [84,88,65]).D,.bool (flagL c [84,88,65]).I,.bool (flagL c [84,88,65]).Z,.bool (flagL c [84,88,65]).C])/\Below w.heap.size w w':=by
 go_enter Tryz.func110,Tryz.ntmps110;go_wp2;refine bodyPost_ret (v:=.agg #[.bool (flagL c [84,88,65]).N,.bool (flagL c [84,88,65]).V,.bool (flagL c [84,88,65]).D,.bool (flagL c [84,88,65]).I,.bool (flagL c [84,88,65]).Z,.bool (flagL c [84,88,65]).C]) bQa rfl ⟨rfl,?_⟩;have j:=j_ (Below.refl w.heap.size w);have hW:=j.out;all_goals exact aQ
theorem eAB (c:CpuN) (w:World) :
  Calls Tryz.prog 110 #[.agg #[.bool c.N,.bool c.V,.bool c.D,.bool c.I,.bool c.Z,.bool c.C],.string ⟨#[84,65,88]⟩] w fun e w'=>e=.returned (.agg #[.bool (flagL c [84,65,88]).N,.bool (flagL c [84,65,88]).V,.bool (flagL c [84,65,88]).D,.bool (flagL c [84,65,88]).I,.bool (flagL c [84,65,88]).Z,.bool (flagL c [84,65,88]).C])/\Below w.heap.size w w':=by
 go_enter Tryz.func110,Tryz.ntmps110;go_wp2;refine bodyPost_ret (v:=.agg #[.bool (flagL c [84,65,88]).N,.bool (flagL c [84,65,88]).V,.bool (flagL c [84,65,88]).D,.bool (flagL c [84,65,88]).I,.bool (flagL c [84,65,88]).Z,.bool (flagL c [84,65,88]).C]) bQa rfl ⟨rfl,?_⟩;have j:=j_ (Below.refl w.heap.size w);have hW:=j.out;all_goals exact aQ
theorem wZA (c:CpuN) (w:World) :
  Calls Tryz.prog 110 #[.agg #[.bool c.N,.bool c.V,.bool c.D,.bool c.I,.bool c.Z,.bool c.C],.string ⟨#[68,69,88]⟩] w fun e w'=>e=.returned (.agg #[.bool (flagL c [68,69,88]).N,.bool (flagL c [68,69,88]).V,.bool (flagL c [68,69,88]).D,.bool (flagL c [68,69,88]).I,.bool (flagL c [68,69,88]).Z,.bool (flagL c [68,69,88]).C])/\Below w.heap.size w w':=by
 go_enter Tryz.func110,Tryz.ntmps110;go_wp2;refine bodyPost_ret (v:=.agg #[.bool (flagL c [68,69,88]).N,.bool (flagL c [68,69,88]).V,.bool (flagL c [68,69,88]).D,.bool (flagL c [68,69,88]).I,.bool (flagL c [68,69,88]).Z,.bool (flagL c [68,69,88]).C]) bQa rfl ⟨rfl,?_⟩;have j:=j_ (Below.refl w.heap.size w);have hW:=j.out;all_goals exact aQ
theorem aAB (c:CpuN) (w:World) :
  Calls Tryz.prog 110 #[.agg #[.bool c.N,.bool c.V,.bool c.D,.bool c.I,.bool c.Z,.bool c.C],.string ⟨#[78,79,80]⟩] w fun e w'=>e=.returned (.agg #[.bool (flagL c [78,79,80]).N,.bool (flagL c [78,79,80]).V,.bool (flagL c [78,79,80]).D,.bool (flagL c [78,79,80]).I,.bool (flagL c [78,79,80]).Z,.bool (flagL c [78,79,80]).C])/\Below w.heap.size w w':=by
 go_enter Tryz.func110,Tryz.ntmps110;go_wp2;refine bodyPost_ret (v:=.agg #[.bool (flagL c [78,79,80]).N,.bool (flagL c [78,79,80]).V,.bool (flagL c [78,79,80]).D,.bool (flagL c [78,79,80]).I,.bool (flagL c [78,79,80]).Z,.bool (flagL c [78,79,80]).C]) bQa rfl ⟨rfl,?_⟩;have j:=j_ (Below.refl w.heap.size w);have hW:=j.out;all_goals exact aQ
theorem jAB (c:CpuN) (w:World) :
  Calls Tryz.prog 110 #[.agg #[.bool c.N,.bool c.V,.bool c.D,.bool c.I,.bool c.Z,.bool c.C],.string ⟨#[84,88,83]⟩] w fun e w'=>e=.returned (.agg #[.bool (flagL c [84,88,83]).N,.bool (flagL c [84,88,83]).V,.bool (flagL c [84,88,83]).D,.bool (flagL c [84,88,83]).I,.bool (flagL c [84,88,83]).Z,.bool (flagL c [84,88,83]).C])/\Below w.heap.size w w':=by
 go_enter Tryz.func110,Tryz.ntmps110;go_wp2;refine bodyPost_ret (v:=.agg #[.bool (flagL c [84,88,83]).N,.bool (flagL c [84,88,83]).V,.bool (flagL c [84,88,83]).D,.bool (flagL c [84,88,83]).I,.bool (flagL c [84,88,83]).Z,.bool (flagL c [84,88,83]).C]) bQa rfl ⟨rfl,?_⟩;have j:=j_ (Below.refl w.heap.size w);have hW:=j.out;all_goals exact aQ
theorem gAB (c:CpuN) (w:World) :
  Calls Tryz.prog 110 #[.agg #[.bool c.N,.bool c.V,.bool c.D,.bool c.I,.bool c.Z,.bool c.C],.string ⟨#[84,83,88]⟩] w fun e w'=>e=.returned (.agg #[.bool (flagL c [84,83,88]).N,.bool (flagL c [84,83,88]).V,.bool (flagL c [84,83,88]).D,.bool (flagL c [84,83,88]).I,.bool (flagL c [84,83,88]).Z,.bool (flagL c [84,83,88]).C])/\Below w.heap.size w w':=by
 go_enter Tryz.func110,Tryz.ntmps110;go_wp2;refine bodyPost_ret (v:=.agg #[.bool (flagL c [84,83,88]).N,.bool (flagL c [84,83,88]).V,.bool (flagL c [84,83,88]).D,.bool (flagL c [84,83,88]).I,.bool (flagL c [84,83,88]).Z,.bool (flagL c [84,83,88]).C]) bQa rfl ⟨rfl,?_⟩;have j:=j_ (Below.refl w.heap.size w);have hW:=j.out;all_goals exact aQ
theorem xZA (c:CpuN) (w:World) :
  Calls Tryz.prog 110 #[.agg #[.bool c.N,.bool c.V,.bool c.D,.bool c.I,.bool c.Z,.bool c.C],.string ⟨#[68,69,89]⟩] w fun e w'=>e=.returned (.agg #[.bool (flagL c [68,69,89]).N,.bool (flagL c [68,69,89]).V,.bool (flagL c [68,69,89]).D,.bool (flagL c [68,69,89]).I,.bool (flagL c [68,69,89]).Z,.bool (flagL c [68,69,89]).C])/\Below w.heap.size w w':=by
 go_enter Tryz.func110,Tryz.ntmps110;go_wp2;refine bodyPost_ret (v:=.agg #[.bool (flagL c [68,69,89]).N,.bool (flagL c [68,69,89]).V,.bool (flagL c [68,69,89]).D,.bool (flagL c [68,69,89]).I,.bool (flagL c [68,69,89]).Z,.bool (flagL c [68,69,89]).C]) bQa rfl ⟨rfl,?_⟩;have j:=j_ (Below.refl w.heap.size w);have hW:=j.out;all_goals exact aQ
theorem fAB (c:CpuN) (w:World) :
  Calls Tryz.prog 110 #[.agg #[.bool c.N,.bool c.V,.bool c.D,.bool c.I,.bool c.Z,.bool c.C],.string ⟨#[84,65,89]⟩] w fun e w'=>e=.returned (.agg #[.bool (flagL c [84,65,89]).N,.bool (flagL c [84,65,89]).V,.bool (flagL c [84,65,89]).D,.bool (flagL c [84,65,89]).I,.bool (flagL c [84,65,89]).Z,.bool (flagL c [84,65,89]).C])/\Below w.heap.size w w':=by
 go_enter Tryz.func110,Tryz.ntmps110;go_wp2;refine bodyPost_ret (v:=.agg #[.bool (flagL c [84,65,89]).N,.bool (flagL c [84,65,89]).V,.bool (flagL c [84,65,89]).D,.bool (flagL c [84,65,89]).I,.bool (flagL c [84,65,89]).Z,.bool (flagL c [84,65,89]).C]) bQa rfl ⟨rfl,?_⟩;have j:=j_ (Below.refl w.heap.size w);have hW:=j.out;all_goals exact aQ
theorem zZA (c:CpuN) (w:World) :
  Calls Tryz.prog 110 #[.agg #[.bool c.N,.bool c.V,.bool c.D,.bool c.I,.bool c.Z,.bool c.C],.string ⟨#[73,78,89]⟩] w fun e w'=>e=.returned (.agg #[.bool (flagL c [73,78,89]).N,.bool (flagL c [73,78,89]).V,.bool (flagL c [73,78,89]).D,.bool (flagL c [73,78,89]).I,.bool (flagL c [73,78,89]).Z,.bool (flagL c [73,78,89]).C])/\Below w.heap.size w w':=by
 go_enter Tryz.func110,Tryz.ntmps110;go_wp2;refine bodyPost_ret (v:=.agg #[.bool (flagL c [73,78,89]).N,.bool (flagL c [73,78,89]).V,.bool (flagL c [73,78,89]).D,.bool (flagL c [73,78,89]).I,.bool (flagL c [73,78,89]).Z,.bool (flagL c [73,78,89]).C]) bQa rfl ⟨rfl,?_⟩;have j:=j_ (Below.refl w.heap.size w);have hW:=j.out;all_goals exact aQ
theorem yZA (c:CpuN) (w:World) :
  Calls Tryz.prog 110 #[.agg #[.bool c.N,.bool c.V,.bool c.D,.bool c.I,.bool c.Z,.bool c.C],.string ⟨#[73,78,88]⟩] w fun e w'=>e=.returned (.agg #[.bool (flagL c [73,78,88]).N,.bool (flagL c [73,78,88]).V,.bool (flagL c [73,78,88]).D,.bool (flagL c [73,78,88]).I,.bool (flagL c [73,78,88]).Z,.bool (flagL c [73,78,88]).C])/\Below w.heap.size w w':=by
 go_enter Tryz.func110,Tryz.ntmps110;go_wp2;refine bodyPost_ret (v:=.agg #[.bool (flagL c [73,78,88]).N,.bool (flagL c [73,78,88]).V,.bool (flagL c [73,78,88]).D,.bool (flagL c [73,78,88]).I,.bool (flagL c [73,78,88]).Z,.bool (flagL c [73,78,88]).C]) bQa rfl ⟨rfl,?_⟩;have j:=j_ (Below.refl w.heap.size w);have hW:=j.out;all_goals exact aQ
theorem sZA (c:CpuN) (w:World) :
  Calls Tryz.prog 110 #[.agg #[.bool c.N,.bool c.V,.bool c.D,.bool c.I,.bool c.Z,.bool c.C],.string ⟨#[67,76,67]⟩] w fun e w'=>e=.returned (.agg #[.bool (flagL c [67,76,67]).N,.bool (flagL c [67,76,67]).V,.bool (flagL c [67,76,67]).D,.bool (flagL c [67,76,67]).I,.bool (flagL c [67,76,67]).Z,.bool (flagL c [67,76,67]).C])/\Below w.heap.size w w':=by
 go_enter Tryz.func110,Tryz.ntmps110;go_wp2;refine bodyPost_ret (v:=.agg #[.bool (flagL c [67,76,67]).N,.bool (flagL c [67,76,67]).V,.bool (flagL c [67,76,67]).D,.bool (flagL c [67,76,67]).I,.bool (flagL c [67,76,67]).Z,.bool (flagL c [67,76,67]).C]) bQa rfl ⟨rfl,?_⟩;have j:=j_ (Below.refl w.heap.size w);have hW:=j.out;all_goals exact aQ
theorem bAB (c:CpuN) (w:World) :
  Calls Tryz.prog 110 #[.agg #[.bool c.N,.bool c.V,.bool c.D,.bool c.I,.bool c.Z,.bool c.C],.string ⟨#[83,69,67]⟩] w fun e w'=>e=.returned (.agg #[.bool (flagL c [83,69,67]).N,.bool (flagL c [83,69,67]).V,.bool (flagL c [83,69,67]).D,.bool (flagL c [83,69,67]).I,.bool (flagL c [83,69,67]).Z,.bool (flagL c [83,69,67]).C])/\Below w.heap.size w w':=by
 go_enter Tryz.func110,Tryz.ntmps110;go_wp2;refine bodyPost_ret (v:=.agg #[.bool (flagL c [83,69,67]).N,.bool (flagL c [83,69,67]).V,.bool (flagL c [83,69,67]).D,.bool (flagL c [83,69,67]).I,.bool (flagL c [83,69,67]).Z,.bool (flagL c [83,69,67]).C]) bQa rfl ⟨rfl,?_⟩;have j:=j_ (Below.refl w.heap.size w);have hW:=j.out;all_goals exact aQ
theorem uZA (c:CpuN) (w:World) :
  Calls Tryz.prog 110 #[.agg #[.bool c.N,.bool c.V,.bool c.D,.bool c.I,.bool c.Z,.bool c.C],.string ⟨#[67,76,73]⟩] w fun e w'=>e=.returned (.agg #[.bool (flagL c [67,76,73]).N,.bool (flagL c [67,76,73]).V,.bool (flagL c [67,76,73]).D,.bool (flagL c [67,76,73]).I,.bool (flagL c [67,76,73]).Z,.bool (flagL c [67,76,73]).C])/\Below w.heap.size w w':=by
 go_enter Tryz.func110,Tryz.ntmps110;go_wp2;refine bodyPost_ret (v:=.agg #[.bool (flagL c [67,76,73]).N,.bool (flagL c [67,76,73]).V,.bool (flagL c [67,76,73]).D,.bool (flagL c [67,76,73]).I,.bool (flagL c [67,76,73]).Z,.bool (flagL c [67,76,73]).C]) bQa rfl ⟨rfl,?_⟩;have j:=j_ (Below.refl w.heap.size w);have hW:=j.out;all_goals exact aQ
theorem dAB (c:CpuN) (w:World) :
  Calls Tryz.prog 110 #[.agg #[.bool c.N,.bool c.V,.bool c.D,.bool c.I,.bool c.Z,.bool c.C],.string ⟨#[83,69,73]⟩] w fun e w'=>e=.returned (.agg #[.bool (flagL c [83,69,73]).N,.bool (flagL c [83,69,73]).V,.bool (flagL c [83,69,73]).D,.bool (flagL c [83,69,73]).I,.bool (flagL c [83,69,73]).Z,.bool (flagL c [83,69,73]).C])/\Below w.heap.size w w':=by
 go_enter Tryz.func110,Tryz.ntmps110;go_wp2;refine bodyPost_ret (v:=.agg #[.bool (flagL c [83,69,73]).N,.bool (flagL c [83,69,73]).V,.bool (flagL c [83,69,73]).D,.bool (flagL c [83,69,73]).I,.bool (flagL c [83,69,73]).Z,.bool (flagL c [83,69,73]).C]) bQa rfl ⟨rfl,?_⟩;have j:=j_ (Below.refl w.heap.size w);have hW:=j.out;all_goals exact aQ
theorem kAB (c:CpuN) (w:World) :
  Calls Tryz.prog 110 #[.agg #[.bool c.N,.bool c.V,.bool c.D,.bool c.I,.bool c.Z,.bool c.C],.string ⟨#[84,89,65]⟩] w fun e w'=>e=.returned (.agg #[.bool (flagL c [84,89,65]).N,.bool (flagL c [84,89,65]).V,.bool (flagL c [84,89,65]).D,.bool (flagL c [84,89,65]).I,.bool (flagL c [84,89,65]).Z,.bool (flagL c [84,89,65]).C])/\Below w.heap.size w w':=by
 go_enter Tryz.func110,Tryz.ntmps110;go_wp2;refine bodyPost_ret (v:=.agg #[.bool (flagL c [84,89,65]).N,.bool (flagL c [84,89,65]).V,.bool (flagL c [84,89,65]).D,.bool (flagL c [84,89,65]).I,.bool (flagL c [84,89,65]).Z,.bool (flagL c [84,89,65]).C]) bQa rfl ⟨rfl,?_⟩;have j:=j_ (Below.refl w.heap.size w);have hW:=j.out;all_goals exact aQ
theorem vZA (c:CpuN) (w:World) :
  Calls Tryz.prog 110 #[.agg #[.bool c.N,.bool c.V,.bool c.D,.bool c.I,.bool c.Z,.bool c.C],.string ⟨#[67,76,86]⟩] w fun e w'=>e=.returned (.agg #[.bool (flagL c [67,76,86]).N,.bool (flagL c [67,76,86]).V,.bool (flagL c [67,76,86]).D,.bool (flagL c [67,76,86]).I,.bool (flagL c [67,76,86]).Z,.bool (flagL c [67,76,86]).C])/\Below w.heap.size w w':=by
 go_enter Tryz.func110,Tryz.ntmps110;go_wp2;refine bodyPost_ret (v:=.agg #[.bool (flagL c [67,76,86]).N,.bool (flagL c [67,76,86]).V,.bool (flagL c [67,76,86]).D,.bool (flagL c [67,76,86]).I,.bool (flagL c [67,76,86]).Z,.bool (flagL c [67,76,86]).C]) bQa rfl ⟨rfl,?_⟩;have j:=j_ (Below.refl w.heap.size w);have hW:=j.out;all_goals exact aQ
theorem tZA (c:CpuN) (w:World) :
  Calls Tryz.prog 110 #[.agg #[.bool c.N,.bool c.V,.bool c.D,.bool c.I,.bool c.Z,.bool c.C],.string ⟨#[67,76,68]⟩] w fun e w'=>e=.returned (.agg #[.bool (flagL c [67,76,68]).N,.bool (flagL c [67,76,68]).V,.bool (flagL c [67,76,68]).D,.bool (flagL c [67,76,68]).I,.bool (flagL c [67,76,68]).Z,.bool (flagL c [67,76,68]).C])/\Below w.heap.size w w':=by
 go_enter Tryz.func110,Tryz.ntmps110;go_wp2;refine bodyPost_ret (v:=.agg #[.bool (flagL c [67,76,68]).N,.bool (flagL c [67,76,68]).V,.bool (flagL c [67,76,68]).D,.bool (flagL c [67,76,68]).I,.bool (flagL c [67,76,68]).Z,.bool (flagL c [67,76,68]).C]) bQa rfl ⟨rfl,?_⟩;have j:=j_ (Below.refl w.heap.size w);have hW:=j.out;all_goals exact aQ
theorem cAB (c:CpuN) (w:World) :
  Calls Tryz.prog 110 #[.agg #[.bool c.N,.bool c.V,.bool c.D,.bool c.I,.bool c.Z,.bool c.C],.string ⟨#[83,69,68]⟩] w fun e w'=>e=.returned (.agg #[.bool (flagL c [83,69,68]).N,.bool (flagL c [83,69,68]).V,.bool (flagL c [83,69,68]).D,.bool (flagL c [83,69,68]).I,.bool (flagL c [83,69,68]).Z,.bool (flagL c [83,69,68]).C])/\Below w.heap.size w w':=by
 go_enter Tryz.func110,Tryz.ntmps110;go_wp2;refine bodyPost_ret (v:=.agg #[.bool (flagL c [83,69,68]).N,.bool (flagL c [83,69,68]).V,.bool (flagL c [83,69,68]).D,.bool (flagL c [83,69,68]).I,.bool (flagL c [83,69,68]).Z,.bool (flagL c [83,69,68]).C]) bQa rfl ⟨rfl,?_⟩;have j:=j_ (Below.refl w.heap.size w);have hW:=j.out;all_goals exact aQ
theorem qXA (c:CpuN) (w:World) :
  Calls Tryz.prog 111 #[.agg #[.bool c.N,.bool c.V,.bool c.D,.bool c.I,.bool c.Z,.bool c.C],.string ⟨#[66,80,76]⟩] w fun e w'=>e=.returned (.bool (aBA c [66,80,76]))/\Below w.heap.size w w':=by
 go_enter Tryz.func111,Tryz.ntmps111;go_wp2;refine bodyPost_ret (v:=.bool (aBA c [66,80,76])) qQc rfl ⟨rfl,?_⟩;have j:=j_ (Below.refl w.heap.size w);have hW:=j.out;all_goals exact aQ
theorem oXA (c:CpuN) (w:World) :
  Calls Tryz.prog 111 #[.agg #[.bool c.N,.bool c.V,.bool c.D,.bool c.I,.bool c.Z,.bool c.C],.string ⟨#[66,77,73]⟩] w fun e w'=>e=.returned (.bool (aBA c [66,77,73]))/\Below w.heap.size w w':=by
 go_enter Tryz.func111,Tryz.ntmps111;go_wp2;refine bodyPost_ret (v:=.bool (aBA c [66,77,73])) qQc rfl ⟨rfl,?_⟩;have j:=j_ (Below.refl w.heap.size w);have hW:=j.out;all_goals exact aQ
theorem rXA (c:CpuN) (w:World) :
  Calls Tryz.prog 111 #[.agg #[.bool c.N,.bool c.V,.bool c.D,.bool c.I,.bool c.Z,.bool c.C],.string ⟨#[66,86,67]⟩] w fun e w'=>e=.returned (.bool (aBA c [66,86,67]))/\Below w.heap.size w w':=by
 go_enter Tryz.func111,Tryz.ntmps111;go_wp2;refine bodyPost_ret (v:=.bool (aBA c [66,86,67])) qQc rfl ⟨rfl,?_⟩;have j:=j_ (Below.refl w.heap.size w);have hW:=j.out;all_goals exact aQ
theorem sXA (c:CpuN) (w:World) :
  Calls Tryz.prog 111 #[.agg #[.bool c.N,.bool c.V,.bool c.D,.bool c.I,.bool c.Z,.bool c.C],.string ⟨#[66,86,83]⟩] w fun e w'=>e=.returned (.bool (aBA c [66,86,83]))/\Below w.heap.size w w':=by
 go_enter Tryz.func111,Tryz.ntmps111;go_wp2;refine bodyPost_ret (v:=.bool (aBA c [66,86,83])) qQc rfl ⟨rfl,?_⟩;have j:=j_ (Below.refl w.heap.size w);have hW:=j.out;all_goals exact aQ
theorem lXA (c:CpuN) (w:World) :
  Calls Tryz.prog 111 #[.agg #[.bool c.N,.bool c.V,.bool c.D,.bool c.I,.bool c.Z,.bool c.C],.string ⟨#[66,67,67]⟩] w fun e w'=>e=.returned (.bool (aBA c [66,67,67]))/\Below w.heap.size w w':=by
 go_enter Tryz.func111,Tryz.ntmps111;go_wp2;refine bodyPost_ret (v:=.bool (aBA c [66,67,67])) qQc rfl ⟨rfl,?_⟩;have j:=j_ (Below.refl w.heap.size w);have hW:=j.out;all_goals exact aQ
theorem mXA (c:CpuN) (w:World) :
  Calls Tryz.prog 111 #[.agg #[.bool c.N,.bool c.V,.bool c.D,.bool c.I,.bool c.Z,.bool c.C],.string ⟨#[66,67,83]⟩] w fun e w'=>e=.returned (.bool (aBA c [66,67,83]))/\Below w.heap.size w w':=by
 go_enter Tryz.func111,Tryz.ntmps111;go_wp2;refine bodyPost_ret (v:=.bool (aBA c [66,67,83])) qQc rfl ⟨rfl,?_⟩;have j:=j_ (Below.refl w.heap.size w);have hW:=j.out;all_goals exact aQ
theorem pXA (c:CpuN) (w:World) :
  Calls Tryz.prog 111 #[.agg #[.bool c.N,.bool c.V,.bool c.D,.bool c.I,.bool c.Z,.bool c.C],.string ⟨#[66,78,69]⟩] w fun e w'=>e=.returned (.bool (aBA c [66,78,69]))/\Below w.heap.size w w':=by
 go_enter Tryz.func111,Tryz.ntmps111;go_wp2;refine bodyPost_ret (v:=.bool (aBA c [66,78,69])) qQc rfl ⟨rfl,?_⟩;have j:=j_ (Below.refl w.heap.size w);have hW:=j.out;all_goals exact aQ
theorem nXA (c:CpuN) (w:World) :
  Calls Tryz.prog 111 #[.agg #[.bool c.N,.bool c.V,.bool c.D,.bool c.I,.bool c.Z,.bool c.C],.string ⟨#[66,69,81]⟩] w fun e w'=>e=.returned (.bool (aBA c [66,69,81]))/\Below w.heap.size w w':=by
 go_enter Tryz.func111,Tryz.ntmps111;go_wp2;refine bodyPost_ret (v:=.bool (aBA c [66,69,81])) qQc rfl ⟨rfl,?_⟩;have j:=j_ (Below.refl w.heap.size w);have hW:=j.out;all_goals exact aQ
theorem tXA (i:Nat) (hi:i ∈ [41,42,43,44,45,46,47,48]) (c:CpuN) (w:World) :
  Calls Tryz.prog 111 #[.agg #[.bool c.N,.bool c.V,.bool c.D,.bool c.I,.bool c.Z,.bool c.C],.string (opTx i)] w fun e w'=>e=.returned (.bool (aBA c (opTx i).toList))/\Below w.heap.size w w':=by
 simp only[List.mem_cons,List.not_mem_nil,or_false] at hi;rcases hi with rfl|rfl|rfl|rfl|rfl|rfl|rfl|rfl
 ·rw[show (opTx 41).toList=[66,80,76] by rw[ByteArray.toList_eq];rfl];exact qXA c w
 ·rw[show (opTx 42).toList=[66,77,73] by rw[ByteArray.toList_eq];rfl];exact oXA c w
 ·rw[show (opTx 43).toList=[66,86,67] by rw[ByteArray.toList_eq];rfl];exact rXA c w
 ·rw[show (opTx 44).toList=[66,86,83] by rw[ByteArray.toList_eq];rfl];exact sXA c w
 ·rw[show (opTx 45).toList=[66,67,67] by rw[ByteArray.toList_eq];rfl];exact lXA c w
 ·rw[show (opTx 46).toList=[66,67,83] by rw[ByteArray.toList_eq];rfl];exact mXA c w
 ·rw[show (opTx 47).toList=[66,78,69] by rw[ByteArray.toList_eq];rfl];exact pXA c w
 ·rw[show (opTx 48).toList=[66,69,81] by rw[ByteArray.toList_eq];rfl];exact nXA c w
theorem jEB (c:CpuN) (w:World) :
  Calls Tryz.prog 115 #[cpuV c,.string ⟨#[83,84,65]⟩] w fun e w'=>e=.returned (.int .u8 (iCA c [83,84,65]:Nat))/\Below w.heap.size w w':=by
 go_enter Tryz.func115,Tryz.ntmps115;go_wp2;refine bodyPost_ret (v:=.int .u8 (iCA c [83,84,65]:Nat)) qQh rfl ⟨rfl,?_⟩;have j:=j_ (Below.refl w.heap.size w);have hW:=j.out;all_goals exact aQ
theorem kEB (c:CpuN) (w:World) :
  Calls Tryz.prog 115 #[cpuV c,.string ⟨#[83,84,88]⟩] w fun e w'=>e=.returned (.int .u8 (iCA c [83,84,88]:Nat))/\Below w.heap.size w w':=by
 go_enter Tryz.func115,Tryz.ntmps115;go_wp2;refine bodyPost_ret (v:=.int .u8 (iCA c [83,84,88]:Nat)) qQh rfl ⟨rfl,?_⟩;have j:=j_ (Below.refl w.heap.size w);have hW:=j.out;all_goals exact aQ
theorem lEB (c:CpuN) (w:World) :
  Calls Tryz.prog 115 #[cpuV c,.string ⟨#[83,84,89]⟩] w fun e w'=>e=.returned (.int .u8 (iCA c [83,84,89]:Nat))/\Below w.heap.size w w':=by
 go_enter Tryz.func115,Tryz.ntmps115;go_wp2;refine bodyPost_ret (v:=.int .u8 (iCA c [83,84,89]:Nat)) qQh rfl ⟨rfl,?_⟩;have j:=j_ (Below.refl w.heap.size w);have hW:=j.out;all_goals exact aQ
theorem mEB (i:Nat) (hi:i ∈ [5,13,23]) (c:CpuN) (w:World) :
  Calls Tryz.prog 115 #[cpuV c,.string (opTx i)] w fun e w'=>e=.returned (.int .u8 (iCA c (opTx i).toList:Nat))/\Below w.heap.size w w':=by
 simp only[List.mem_cons,List.not_mem_nil,or_false] at hi;rcases hi with rfl|rfl|rfl
 ·rw[show (opTx 5).toList=[83,84,65] by rw[ByteArray.toList_eq];rfl];exact jEB c w
 ·rw[show (opTx 13).toList=[83,84,88] by rw[ByteArray.toList_eq];rfl];exact kEB c w
 ·rw[show (opTx 23).toList=[83,84,89] by rw[ByteArray.toList_eq];rfl];exact lEB c w

end Go.Proofs.YtckfdbjjjgfbfaaGreat
