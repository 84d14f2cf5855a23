import Derived.Test.YtckfdbjjjgfbfaaGreatProg
import Derived.Lib.Hide
import Derived.IntWalk
namespace Go.Proofs.YtckfdbjjjgfbfaaGreat
theorem j_ {p:Prop} (h:p):Go.RowKit.Hid p:=h
theorem aQ {p:Prop} (h:p:=by (repeat(any_goals(first|(with_reducible exact hW)|(with_reducible refine Below.drew ?_)|(with_reducible refine Below.setCell ?_ ?_ _)|(with_reducible refine Below.alloc ?_ ?_ _))));all_goals(first|(with_reducible exact Nat.le_refl _)|(simp;done)|(simp;omega))):p:=h
theorem bQ {p:Prop} (h:p:=by (repeat(any_goals(first|(with_reducible exact hd)|(with_reducible exact Below.refl _ _)|(with_reducible refine Below.drew ?_)|(with_reducible refine Below.setCell ?_ ?_ _)|(with_reducible refine Below.alloc ?_ ?_ _))));all_goals(first|(with_reducible exact Nat.le_refl _)|(simp;done)|(simp;omega)|omega|(have h9:=hd.size;omega)|(have h9:=hd.size;simp;omega)|(trace_state;omega))):p:=h
theorem dQ {p:Prop} (h:p:=by omega):p:=h
theorem eQ {p:Prop} (h:p:=by (repeat(any_goals(first|(with_reducible exact Below.refl _ _)|(with_reducible refine Below.drew ?_)|(with_reducible refine Below.alloc ?_ ?_ _))));all_goals(first|(simp;done)|(simp;omega))):p:=h
theorem fQ {p:Prop} (h:p:=by (repeat(any_goals(first|(with_reducible exact hbw)|(with_reducible refine Below.drew ?_)|(with_reducible refine Below.setCell ?_ ?_ _)|(with_reducible refine Below.alloc ?_ ?_ _))));all_goals(first|(simp;done)|(simp;omega))):p:=h
theorem gQ {p:Prop} (h:p:=by kernel_rfl):p:=h
theorem iQ {p:Prop} (h:p:=by decide):p:=h
theorem jQ {p:Prop} (h:p:=by (repeat(any_goals(first|(with_reducible exact HS.out)|(with_reducible refine Sit.drew ?_)|(with_reducible refine Sit.set ?_ _ ?_ ?_))));all_goals(first|(with_reducible exact Nat.le_refl _)|omega|(simp;done))):p:=h
theorem kQ {p:Prop} (h:p:=by unfold Waits;kernel_rfl):p:=h
theorem lQ {p:Prop} (h:p:=by unfold IsOp;kernel_rfl):p:=h
theorem mQ {p:Prop} (h:p:=by (repeat(any_goals(first|(with_reducible exact Below.refl _ _)|(with_reducible refine Below.drew ?_)|(with_reducible refine Below.setCell ?_ ?_ _)|(with_reducible refine Below.alloc ?_ ?_ _))));all_goals(first|(with_reducible exact Nat.le_refl _)|(simp;done)|(simp;omega)|omega|(have h9:=hd.size;omega)|(have h9:=hd.size;simp;omega)|(trace_state;omega))):p:=h
theorem nQ {p:Prop} (h:p:=by simp[results,Tryz.results81,go_sem,g0,g1,g2,g3,g4,g5,g6,g7,g8,g9,g10,h0,h1,h2,h3,h4,h5,h6,h7,h8,h9,h10,impL,regL,flagL,CpuN.nz,CpuN.chg]):p:=h
theorem oQ {p:Prop} (h:p:=by (repeat(any_goals(first|(with_reducible exact HX.out)|(with_reducible refine Below.drew ?_)|(with_reducible refine Below.setCell ?_ ?_ _)|(with_reducible refine Below.alloc ?_ ?_ _))));all_goals(first|(simp;done)|(simp;omega)|omega)):p:=h
theorem pQ {p:Prop} (h:p:=by rw[hz];decide):p:=h
theorem qQ {p:Prop} (h:p:=by simp;omega):p:=h
theorem rQ {p:Prop} (h:p:=by first|rfl|omega|(simp[IntKind.wrap,IntKind.bits,IntKind.signed];omega)):p:=h
theorem tQ {p:Prop} (h:p:=by have h':=(nr h);obtain⟨g0,g1,g2,g3,g4,g5⟩:=f10 h';exact⟨g0,(g1.span hsp (by omega)),(g2.span hsp (by omega)),g3,(Nat.le_trans g4 hsp.size),(Nat.le_trans g5 hsp.size)⟩):p:=h
theorem uQ {p:Prop} (h:p:=by have:=hb.size;simp at this;omega):p:=h
theorem vQ {p:Prop} (h:p:=by simp only[World.size_alloc]):p:=h
theorem wQ {p:Prop} (h:p:=by first|exact Nat.le_refl _|(simp;done)|(simp;omega)):p:=h
theorem xQ {p:Prop} (h:p:=by simp[results,Tryz.results132,go_sem,opTx]):p:=h
theorem yQ {p:Prop} (h:p:=by simp):p:=h
theorem aQa {p:Prop} (h:p:=by simp[results,Tryz.results113,go_sem,g0,g1,g2,g3,g4,g5,g6,g7,g8,g9,g10,h0,h1,h2,h3,h4,h5,h6,h7,h8,h9,h10,useL,CpuN.nz]):p:=h
theorem bQa {p:Prop} (h:p:=by simp[results,Tryz.results110,go_sem,flagL]):p:=h
theorem cQa {p:Prop} (h:p:=by show ¬ (w.heap.size+4≤w.heap.size+1+1+1);omega):p:=h
theorem dQa {p:Prop} (h:p:=by show ¬ (w.heap.size+4≤w.heap.size+1+1);omega):p:=h
theorem eQa {p:Prop} (h:p:=by show w.heap.size+4≤w5.heap.size;have h8:=HV.out;have e5:V.heap.size≤w5.heap.size:=Nat.le_trans (by first|exact Nat.le_refl _|(simp;done)|(simp;omega)) d5.size;omega):p:=h
theorem fQa {p:Prop} (h:p:=by show w.heap.size+4≤V.heap.size;have h8:=HV.out;have e5:V.heap.size≤w5.heap.size:=Nat.le_trans (by first|exact Nat.le_refl _|(simp;done)|(simp;omega)) d5.size;omega):p:=h
theorem gQa {p:Prop} (h:p:=by rw[←hk];exact p3.cells.2.2.2.2.2.2.2.2.2.2.2.2.2.2.1):p:=h
theorem hQa {p:Prop} (h:p:=by rw[←hk];exact pp.cells.2.2.2.2.2.2.2.2.2.2.2.2.2.2.1):p:=h
theorem iQa {p:Prop} (h:p:=by have h8:=HV.out;have h9:=dW.size;omega):p:=h
theorem jQa {p:Prop} (h:p:=by rw[←Hz1.out];exact S0.bus.byte _):p:=h
theorem kQa {p:Prop} (h:p:=by simp[results,Tryz.results113,go_sem,g0,g1,g2,g3,g4,g5,g6,g7,g8,g9,g10,h0,h1,h2,h3,h4,h5,h6,h7,h8,h9,h10,useL,CpuN.nz,hx]):p:=h
theorem lQa {p:Prop} (h:p:=by have h:=h.resolve_left nn;have g0:=f0 h;exact ((aAA hd).trans g0)):p:=h
theorem mQa {p:Prop} (h:p:=by have:=zz1.out;have:=z7.out;have:=z27.out;have:=z31.out;have:=z37.out;have:=z45.out;have:=z65.out;have:=z70.out;omega):p:=h
theorem nQa {p:Prop} (h:p:=by simp[results,Tryz.results81,go_sem,g0,g1,g2,g3,g4,g5,g6,g7,g8,g9,g10,h0,h1,h2,h3,h4,h5,h6,h7,h8,h9,h10,impL,regL,flagL,CpuN.nz,CpuN.chg,HX.out]):p:=h
theorem oQa {p:Prop} (h:p:=by have:=u406.out;omega):p:=h
theorem pQa {p:Prop} (h:p:=by have h9:w.heap.size+4≤i:=hf;omega):p:=h
theorem qQa {p:Prop} (h:p:=by have h:=h.resolve_left nn;have g0:=f1 h;exact ((aAA hd).trans g0)):p:=h
theorem rQa {p:Prop} (h:p:=by have h:=h.resolve_left nn;have g0:=f2 h;exact ((aAA hd).trans g0)):p:=h
theorem sQa {p:Prop} (h:p:=by have h:=h.resolve_left nn;have g0:=f3 h;exact ((aAA hd).trans g0)):p:=h
theorem tQa {p:Prop} (h:p:=by rw[←hb1];exact hf.rd):p:=h
theorem uQa {p:Prop} (h:p:=by have h:=h.resolve_left nn;obtain⟨g0,g1,g2,g3,g4,g5⟩:=f10 h;exact⟨((aAA hd).trans g0),(g1.below hbw),(g2.below hbw),g3,(Nat.le_trans g4 hbw.size),(Nat.le_trans g5 hbw.size)⟩):p:=h
theorem vQa {p:Prop} (h:p:=by unfold IsOpG;kernel_rfl):p:=h
theorem wQa {p:Prop} (h:p:=by have h':=(nr h);have g0:=f0 h';exact g0):p:=h
theorem xQa {p:Prop} (h:p:=by rw[←Hu.out];unfold word;omega):p:=h
theorem yQa {p:Prop} (h:p:=by rw[←hb2];exact Fb1.rd):p:=h
theorem zQa {p:Prop} (h:p:=by have:=u351.out;omega):p:=h
theorem aQb {p:Prop} (h:p:=by have h:=h.resolve_left nn;have g0:=f4 h;exact ((aAA hd).trans g0)):p:=h
theorem bQb {p:Prop} (h:p:=by simp[Value.ownBlock] at ek):p:=h
theorem cQb {p:Prop} (h:p:=by decide +kernel):p:=h
theorem dQb {p:Prop} (h:p:=by unfold execOp;rw[ho];dsimp only;simp only[List.map_toArray,List.map_cons,List.map_nil,e0_0,oAA];simp[go_sem]):p:=h
theorem eQb {p:Prop} (h:p:=by unfold execOp;rw[ho];dsimp only;simp only[List.map_toArray,List.map_cons,List.map_nil,e1_0,oAA];simp[go_sem]):p:=h
theorem fQb {p:Prop} (h:p:=by unfold execOp;rw[ho];dsimp only;simp only[List.map_toArray,List.map_cons,List.map_nil,e2_0,oAA];simp[go_sem]):p:=h
theorem gQb {p:Prop} (h:p:=by unfold execOp;rw[ho];dsimp only;simp only[List.map_toArray,List.map_cons,List.map_nil,e5_0,oAA];simp[go_sem]):p:=h
theorem hQb {p:Prop} (h:p:=by unfold execOp;rw[ho];dsimp only;simp only[List.map_toArray,List.map_cons,List.map_nil,e6_0,oAA];simp[go_sem]):p:=h
theorem iQb {p:Prop} (h:p:=by unfold execOp;rw[ho];dsimp only;simp only[List.map_toArray,List.map_cons,List.map_nil,e7_0,oAA];simp[go_sem]):p:=h
theorem jQb {p:Prop} (h:p:=by have h':=(nr h);have g0:=f1 h';exact g0):p:=h
theorem kQb {p:Prop} (h:p:=by have:=hgrow.size;simp at this;omega):p:=h
theorem lQb {p:Prop} (h:p:=by rw[←Hz2.out];exact S4.bus.byte _):p:=h
theorem mQb {p:Prop} (h:p:=by simp[results,Tryz.results85,go_sem,g0,g1,g2,g3,g4,g5,g6,g7,g8,g9,g10,h0,h1,h2,h3,h4,h5,h6,h7,h8,h9,h10]):p:=h
theorem nQb {p:Prop} (h:p:=by have:=u25.out;omega):p:=h
theorem oQb {p:Prop} (h:p:=by unfold execOp;rw[ho];dsimp only;rw[(hf.eval (by decide)).trans h7];simp[go_sem]):p:=h
theorem pQb {p:Prop} (h:p:=by have h:=h.resolve_left nn;have g0:=f5 h;exact ((aAA hd).trans g0)):p:=h
theorem qQb {p:Prop} (h:p:=by have h:=h.resolve_left nn;have g0:=f6 h;exact ((aAA hd).trans g0)):p:=h
theorem rQb {p:Prop} (h:p:=by have h:=h.resolve_left nn;have g0:=f7 h;exact ((aAA hd).trans g0)):p:=h
theorem sQb {p:Prop} (h:p:=by have h:=h.resolve_left nn;have g0:=f8 h;exact ((aAA hd).trans g0)):p:=h
theorem tQb {p:Prop} (h:p:=by simp[results,Tryz.results114,go_sem,HE.out]):p:=h
theorem uQb {p:Prop} (h:p:=by first|omega|(simp only[IntKind.wrap,IntKind.bits,IntKind.signed];simp;omega)):p:=h
theorem vQb {p:Prop} (h:p:=by simp[results,Tryz.results108,go_sem,g0,g1,g2,g3,g4,g5,h0,h1,h2,h3,h4,h5,CpuN.chg,chgB,chgC,hx]):p:=h
theorem wQb {p:Prop} (h:p:=by simp[results,Tryz.results130,go_sem,opTx]):p:=h
theorem xQb {p:Prop} (h:p:=by obtain⟨cs,hcs,hcz⟩:=pm0;exact⟨cs,hcs.span hsp (by omega),hcz⟩):p:=h
theorem yQb {p:Prop} (h:p:=by obtain⟨cs,hcs,hcz⟩:=pm1;exact⟨cs,hcs.span hsp (by omega),hcz⟩):p:=h
theorem zQb {p:Prop} (h:p:=by have:=u389.out;omega):p:=h
theorem aQc {p:Prop} (h:p:=by have:=u390.out;omega):p:=h
theorem bQc {p:Prop} (h:p:=by have:=u405.out;omega):p:=h
theorem cQc {p:Prop} (h:p:=by have h':=(nr h);obtain⟨g0,g1⟩:=f11 h';exact⟨g0,(Or.inr g1)⟩):p:=h
theorem dQc {p:Prop} (h:p:=by have h':=(nr h);obtain⟨g0,g1⟩:=f12 h';exact⟨g0,(Or.inr g1)⟩):p:=h
theorem eQc {p:Prop} (h:p:=by have h':=(nr h);obtain⟨g0,g1⟩:=f13 h';exact⟨g0,(Or.inr g1)⟩):p:=h
theorem fQc {p:Prop} (h:p:=by have h':=(nr h);obtain⟨g0,g1⟩:=f16 h';exact⟨g0,(Or.inr g1)⟩):p:=h
theorem gQc {p:Prop} (h:p:=by rw[←Hb1.out];rfl):p:=h
theorem hQc {p:Prop} (h:p:=by have h':=(nr h);have g0:=f2 h';exact g0):p:=h
theorem iQc {p:Prop} (h:p:=by have h':=(nr h);have g0:=f3 h';exact g0):p:=h
theorem jQc {p:Prop} (h:p:=by have:=u489.out;omega):p:=h
theorem kQc {p:Prop} (h:p:=by have:=u509.out;omega):p:=h
theorem lQc {p:Prop} (h:p:=by simp only[Value.ownBlock,Option.some.injEq] at ek;omega):p:=h
theorem mQc {p:Prop} (h:p:=by have h:=h.resolve_left nn;have g0:=f9 h;exact ((aAA hd).trans g0)):p:=h
theorem nQc {p:Prop} (h:p:=by have:=u64.out;omega):p:=h
theorem oQc {p:Prop} (h:p:=by have:=((World.ownsRow.lt hsm.out.1.2) k ek).1;have:=arh.out;have:=z17.out;have:=z25.out;have:=z33.out;omega):p:=h
theorem pQc {p:Prop} (h:p:=by simp[results,Tryz.results44,go_sem,g0,g1,g2,g3,g4,g5,g6,g7,g8,g9,g10,h0,h1,h2,h3,h4,h5,h6,h7,h8,h9,h10,x0c]):p:=h
theorem qQc {p:Prop} (h:p:=by simp[results,Tryz.results111,go_sem,aBA]):p:=h
theorem rQc {p:Prop} (h:p:=by unfold execOp;rw[ho];dsimp only;rw[(hf.eval (by decide)).trans h10];simp[go_sem]):p:=h
theorem sQc {p:Prop} (h:p:=by have:=((World.ownsRow.lt hsc.out.1) k ek).1;have:=arh.out;have:=z17.out;have:=z25.out;have:=z33.out;omega):p:=h
theorem tQc {p:Prop} (h:p:=by have h':=(nr h);have g0:=f8 h';exact g0):p:=h
theorem uQc {p:Prop} (h:p:=by simp[results,Tryz.results126,go_sem,h0,h1,h2,h3,h4,h5,h6,h7,h8,h9,h10,xc,cpu0]):p:=h
theorem vQc {p:Prop} (h:p:=by simp[results,Tryz.results147,go_sem,h0,h1,h2,h3,h4,h5,h6,h7,h8,h9,h10,xc,cpu0]):p:=h
theorem wQc {p:Prop} (h:p:=by simp[results,Tryz.results101,go_sem,g0,g1,g2,g3,g4,g5,g6,g7,g8,g9,g10,gq]):p:=h
theorem xQc {p:Prop} (h:p:=by simp[results,Tryz.results126,go_sem,h0,h1,h2,h3,h4,h5,h6,h7,h8,h9,h10,xc]):p:=h
theorem yQc {p:Prop} (h:p:=by simp[results,Tryz.results147,go_sem,h0,h1,h2,h3,h4,h5,h6,h7,h8,h9,h10,xc]):p:=h
theorem zQc {p:Prop} (h:p:=by have:=u352.out;omega):p:=h
theorem aQd {p:Prop} (h:p:=by have h':=(nr h);have g0:=f4 h';exact g0):p:=h
theorem bQd {p:Prop} (h:p:=by have h8:=HV.out;have h9:V.heap.size+1≤i:=(by simpa using hf);exact⟨(by omega),(by omega)⟩):p:=h
theorem cQd {p:Prop} (h:p:=by rw[←HRES.out];unfold stepN;rw[if_pos HH.out,if_neg (by simp[hj])]):p:=h
theorem dQd {p:Prop} (h:p:=by simp[IntKind.wrap,IntKind.bits,IntKind.signed];omega):p:=h
theorem eQd {p:Prop} (h:p:=by simp[results,Tryz.results137,go_sem,hc,hz,hz0,HT.out,HH.out,wKA]):p:=h
theorem fQd {p:Prop} (h:p:=by have h:=h.resolve_left nn;obtain⟨g0,g1⟩:=f11 h;exact⟨((aAA hd).trans g0),(Or.inr g1)⟩):p:=h
theorem gQd {p:Prop} (h:p:=by have h:=h.resolve_left nn;obtain⟨g0,g1⟩:=f12 h;exact⟨((aAA hd).trans g0),(Or.inr g1)⟩):p:=h
theorem hQd {p:Prop} (h:p:=by have h:=h.resolve_left nn;obtain⟨g0,g1⟩:=f13 h;exact⟨((aAA hd).trans g0),(Or.inr g1)⟩):p:=h
theorem iQd {p:Prop} (h:p:=by have h:=h.resolve_left nn;obtain⟨g0,g1⟩:=f16 h;exact⟨((aAA hd).trans g0),(Or.inr g1)⟩):p:=h
theorem jQd {p:Prop} (h:p:=by rw[←hb3];exact Fb2.rd):p:=h
theorem kQd {p:Prop} (h:p:=by rw[←hs,←hb1];simp[impL,regL,flagL,CpuN.nz]):p:=h
theorem lQd {p:Prop} (h:p:=by have h':=(nr h);obtain⟨g0,g1⟩:=f14 h';exact⟨(g0.span hsp (by omega)),(Or.inr g1)⟩):p:=h
theorem mQd {p:Prop} (h:p:=by have h':=(nr h);obtain⟨g0,g1⟩:=f15 h';exact⟨(g0.span hsp (by omega)),(Or.inr g1)⟩):p:=h
theorem nQd {p:Prop} (h:p:=by have h:=h.resolve_left nn;obtain⟨g0,g1⟩:=f14 h;exact⟨(g0.below hbw),(Or.inr g1)⟩):p:=h
theorem oQd {p:Prop} (h:p:=by have h:=h.resolve_left nn;obtain⟨g0,g1⟩:=f15 h;exact⟨(g0.below hbw),(Or.inr g1)⟩):p:=h
theorem pQd {p:Prop} (h:p:=by have h':=(nr h);have g0:=f5 h';exact g0):p:=h
theorem qQd {p:Prop} (h:p:=by have h':=(nr h);have g0:=f6 h';exact g0):p:=h
theorem rQd {p:Prop} (h:p:=by have h':=(nr h);have g0:=f7 h';exact g0):p:=h
theorem sQd {p:Prop} (h:p:=by have h':=(nr h);have g0:=f9 h';exact g0):p:=h
theorem tQd {p:Prop} (h:p:=by rw[←hs];simp[CpuN.chg,chgB,chgC,Hx.out]):p:=h
theorem uQd {p:Prop} (h:p:=by rw[←hz1];exact p.byte _):p:=h
theorem vQd {p:Prop} (h:p:=by rw[←Hz1.out];exact S2.bus.byte _):p:=h
theorem wQd {p:Prop} (h:p:=by rw[←hs,←hb1];simp[impL,regL]):p:=h
theorem xQd {p:Prop} (h:p:=by simp[Value.ownBlock] at ej;omega):p:=h
theorem yQd {p:Prop} (h:p:=by have:=u432.out;omega):p:=h
theorem zQd {p:Prop} (h:p:=by have:=u433.out;omega):p:=h
theorem aQe {p:Prop} (h:p:=by have:=HV.out;omega):p:=h
theorem bQe {p:Prop} (h:p:=by rw[←hci];exact bI_bd c 1 (by decide)):p:=h
theorem cQe {p:Prop} (h:p:=by simp[results,Tryz.results130,go_sem]):p:=h
theorem dQe {p:Prop} (h:p:=by have:=u57.out;omega):p:=h
theorem eQe {p:Prop} (h:p:=by subst hs0;unfold stk;omega):p:=h
theorem fQe {p:Prop} (h:p:=by have h8:=HV.out;have h9:V.heap.size≤i:=hf;show w.heap.size+4≤i;omega):p:=h
theorem gQe {p:Prop} (h:p:=by obtain⟨cs,hcs,hcz⟩:=pm0;exact⟨cs,hcs.below hbw,hcz⟩):p:=h
theorem hQe {p:Prop} (h:p:=by obtain⟨cs,hcs,hcz⟩:=pm1;exact⟨cs,hcs.below hbw,hcz⟩):p:=h
theorem iQe {p:Prop} (h:p:=by rw[HV.out,HE.out];simpa using fun h=>hne (by omega)):p:=h
theorem jQe {p:Prop} (h:p:=by simp only[List.map_toArray,List.map_cons,List.map_nil,oAA,e4_0,e9_0]):p:=h
theorem kQe {p:Prop} (h:p:=by unfold opB;rw[if_neg (by omega),if_neg (by omega),if_pos (by omega)]):p:=h
theorem lQe {p:Prop} (h:p:=by have:=u471.out;omega):p:=h
theorem mQe {p:Prop} (h:p:=by have:=and8 (z1+1) v Hv.out;rw[Int.natCast_add] at this;exact this):p:=h
theorem nQe {p:Prop} (h:p:=by unfold maxLen;omega):p:=h
theorem oQe {p:Prop} (h:p:=by rw[←hk];exact Nat.mod_lt _ (by omega)):p:=h
theorem pQe {p:Prop} (h:p:=by rw[←hz1];exact dEA (p.byte _) (p.byte_fetch _)):p:=h
theorem qQe {p:Prop} (h:p:=by rw[tDA];have:=Hp.out;omega):p:=h
theorem rQe {p:Prop} (h:p:=by simp[Value.ownBlock];omega):p:=h
theorem sQe {p:Prop} (h:p:=by have:=HU.out.cpus;have:=HK.out;omega):p:=h
theorem tQe {p:Prop} (h:p:=by have:=HU.out.many;have:=HK.out;omega):p:=h
theorem uQe {p:Prop} (h:p:=by have:=u361.out;omega):p:=h
theorem vQe {p:Prop} (h:p:=by have:=u363.out;omega):p:=h
theorem wQe {p:Prop} (h:p:=by have:=u367.out;omega):p:=h
theorem xQe {p:Prop} (h:p:=by have:=u379.out;omega):p:=h
theorem yQe {p:Prop} (h:p:=by have:=u383.out;omega):p:=h
theorem zQe {p:Prop} (h:p:=by have:=u394.out;omega):p:=h
theorem aQf {p:Prop} (h:p:=by have:=u435.out;omega):p:=h
theorem bQf {p:Prop} (h:p:=by have:=u444.out;omega):p:=h
theorem cQf {p:Prop} (h:p:=by have:=u447.out;omega):p:=h
theorem dQf {p:Prop} (h:p:=by have:=u466.out;omega):p:=h
theorem eQf {p:Prop} (h:p:=by have:=u473.out;omega):p:=h
theorem fQf {p:Prop} (h:p:=by have:=u474.out;omega):p:=h
theorem gQf {p:Prop} (h:p:=by have:=u528.out;omega):p:=h
theorem hQf {p:Prop} (h:p:=by have:=u547.out;omega):p:=h
theorem iQf {p:Prop} (h:p:=by rw[←hs,←hb1];simp[impL,regL,flagL,CpuN.nz,hv]):p:=h
theorem jQf {p:Prop} (h:p:=by simp[results,Tryz.results132,go_sem]):p:=h
theorem kQf {p:Prop} (h:p:=by unfold lAA;rw[hi];rw[ByteArray.toList_eq];rfl):p:=h
theorem lQf {p:Prop} (h:p:=by have h':=(nr h);obtain⟨g0,g1⟩:=f11 h';exact absurd g1 hnd):p:=h
theorem mQf {p:Prop} (h:p:=by have h':=(nr h);obtain⟨g0,g1⟩:=f12 h';exact absurd g1 hnd):p:=h
theorem nQf {p:Prop} (h:p:=by have h':=(nr h);obtain⟨g0,g1⟩:=f13 h';exact absurd g1 hnd):p:=h
theorem oQf {p:Prop} (h:p:=by have h':=(nr h);obtain⟨g0,g1⟩:=f14 h';exact absurd g1 hnd):p:=h
theorem pQf {p:Prop} (h:p:=by have h':=(nr h);obtain⟨g0,g1⟩:=f15 h';exact absurd g1 hnd):p:=h
theorem qQf {p:Prop} (h:p:=by have h':=(nr h);obtain⟨g0,g1⟩:=f16 h';exact absurd g1 hnd):p:=h
theorem rQf {p:Prop} (h:p:=by have:=hb1.size;simp at this;omega):p:=h
theorem sQf {p:Prop} (h:p:=by unfold execOp;rw[ho];dsimp only;rw[Sem.run_bind,hr];rfl):p:=h
theorem tQf {p:Prop} (h:p:=by rw[←hk];exact fun h=>hi0 ((op_k0 zb).1 h)):p:=h
theorem uQf {p:Prop} (h:p:=by have:=HST.out;have:=HK.out;omega):p:=h
theorem vQf {p:Prop} (h:p:=by have:=u132.out;omega):p:=h
theorem wQf {p:Prop} (h:p:=by have:=u410.out;omega):p:=h
theorem xQf {p:Prop} (h:p:=by have:=u422.out;omega):p:=h
theorem yQf {p:Prop} (h:p:=by have:=u448.out;omega):p:=h
theorem zQf {p:Prop} (h:p:=by have:=u449.out;omega):p:=h
theorem aQg {p:Prop} (h:p:=by have:=u451.out;omega):p:=h
theorem bQg {p:Prop} (h:p:=by have:=u463.out;omega):p:=h
theorem cQg {p:Prop} (h:p:=by have:=u483.out;omega):p:=h
theorem dQg {p:Prop} (h:p:=by have:=u486.out;omega):p:=h
theorem eQg {p:Prop} (h:p:=by have:=u490.out;omega):p:=h
theorem fQg {p:Prop} (h:p:=by have:=u498.out;omega):p:=h
theorem gQg {p:Prop} (h:p:=by have:=u510.out;omega):p:=h
theorem hQg {p:Prop} (h:p:=by have:=u524.out;omega):p:=h
theorem iQg {p:Prop} (h:p:=by have:=u525.out;omega):p:=h
theorem jQg {p:Prop} (h:p:=by have:=u561.out;omega):p:=h
theorem kQg {p:Prop} (h:p:=by rw[←Hz2.out];exact S7.bus.byte _):p:=h
theorem lQg {p:Prop} (h:p:=by rw[w16];omega):p:=h
theorem mQg {p:Prop} (h:p:=by simp[List.getD,List.getElem?_replicate];split<;>simp):p:=h
theorem nQg {p:Prop} (h:p:=by subst hs1;unfold stk;omega):p:=h
theorem oQg {p:Prop} (h:p:=by rcases hmm with h|h|h|h|h|h|h|h<;>(subst h;decide)):p:=h
theorem pQg {p:Prop} (h:p:=by rw[←hb4];exact Fb3.rd):p:=h
theorem qQg {p:Prop} (h:p:=by unfold lAA;rw[hid]):p:=h
theorem rQg {p:Prop} (h:p:=by rw[Int.tmod_eq_emod_of_nonneg (by omega)];omega):p:=h
theorem sQg {p:Prop} (h:p:=by have:=u177.out;omega):p:=h
theorem tQg {p:Prop} (h:p:=by have:=u423.out;omega):p:=h
theorem uQg {p:Prop} (h:p:=by have:=u424.out;omega):p:=h
theorem vQg {p:Prop} (h:p:=by simp[IntKind.wrap,IntKind.bits,IntKind.signed]):p:=h
theorem wQg {p:Prop} (h:p:=by simpa [or_comm,or_assoc,or_left_comm] using hi):p:=h
theorem xQg {p:Prop} (h:p:=by rw[List.length_replicate];unfold maxLen;omega):p:=h
theorem yQg {p:Prop} (h:p:=by have:=u58.out;omega):p:=h
theorem zQg {p:Prop} (h:p:=by have:=u73.out;omega):p:=h
theorem aQh {p:Prop} (h:p:=by have:=u99.out;omega):p:=h
theorem bQh {p:Prop} (h:p:=by go_num):p:=h
theorem cQh {p:Prop} (h:p:=by rw[←Hz3.out];exact S15.bus.byte _):p:=h
theorem dQh {p:Prop} (h:p:=by rw[ha1];exact Bool.false_ne_true):p:=h
theorem eQh {p:Prop} (h:p:=by rw[←Hz3.out];exact S9.bus.byte _):p:=h
theorem fQh {p:Prop} (h:p:=by simp[results,Tryz.results107,go_sem,hc,hz]):p:=h
theorem gQh {p:Prop} (h:p:=by first|omega|(simp;omega)):p:=h
theorem hQh {p:Prop} (h:p:=by have:=u114.out;omega):p:=h
theorem iQh {p:Prop} (h:p:=by have:=u146.out;omega):p:=h
theorem jQh {p:Prop} (h:p:=by have:=u179.out;omega):p:=h
theorem kQh {p:Prop} (h:p:=by have:=u208.out;omega):p:=h
theorem lQh {p:Prop} (h:p:=by have:=u211.out;omega):p:=h
theorem mQh {p:Prop} (h:p:=by have:=u228.out;omega):p:=h
theorem nQh {p:Prop} (h:p:=by have:=u260.out;omega):p:=h
theorem oQh {p:Prop} (h:p:=by have:=u309.out;omega):p:=h
theorem pQh {p:Prop} (h:p:=by rw[←hy];unfold rAA;omega):p:=h
theorem qQh {p:Prop} (h:p:=by simp[results,Tryz.results115,go_sem,iCA]):p:=h
theorem rQh {p:Prop} (h:p:=by simp[results,Tryz.results69,go_sem,hcx2]):p:=h
theorem sQh {p:Prop} (h:p:=by simpa using hown'):p:=h
theorem tQh {p:Prop} (h:p:=by rw[hst,List.length_map];exact hU.starts):p:=h
theorem uQh {p:Prop} (h:p:=by have:=u51.out;omega):p:=h
theorem vQh {p:Prop} (h:p:=by have:=u70.out;omega):p:=h
theorem wQh {p:Prop} (h:p:=by have:=u90.out;omega):p:=h
theorem xQh {p:Prop} (h:p:=by rw[←Hz2.out];exact p2.byte _):p:=h
theorem yQh {p:Prop} (h:p:=by rw[←hy];exact kGA (by omega)):p:=h
theorem zQh {p:Prop} (h:p:=by rw[←Hv2.out];omega):p:=h
theorem aQi {p:Prop} (h:p:=by rw[←hz];exact S2.bus.byte _):p:=h
theorem bQi {p:Prop} (h:p:=by have:=hrow k ek;omega):p:=h
theorem cQi {p:Prop} (h:p:=by rw[←hr];exact oJA (fun a=>h.byte a)):p:=h
theorem dQi {p:Prop} (h:p:=by rw[HV.out,HE.out,hne];simp):p:=h
theorem eQi {p:Prop} (h:p:=by rw[←hs,←hb1];simp[impL,hy]):p:=h
theorem fQi {p:Prop} (h:p:=by have:=u102.out;omega):p:=h
theorem gQi {p:Prop} (h:p:=by have:=u235.out;omega):p:=h
theorem hQi {p:Prop} (h:p:=by have:=u267.out;omega):p:=h
theorem iQi {p:Prop} (h:p:=by rw[←hb1];exact F0.rd):p:=h
theorem jQi {p:Prop} (h:p:=by rw[h];rfl):p:=h
theorem kQi {p:Prop} (h:p:=by rw[←hs];simp[useL,CpuN.nz,Hx.out]):p:=h
theorem lQi {p:Prop} (h:p:=by simpa using hk):p:=h
theorem mQi {p:Prop} (h:p:=by simp at k0;omega):p:=h
theorem nQi {p:Prop} (h:p:=by have:=HL8.out;omega):p:=h
theorem oQi {p:Prop} (h:p:=by have:=u34.out;omega):p:=h
theorem pQi {p:Prop} (h:p:=by have:=u45.out;omega):p:=h
theorem qQi {p:Prop} (h:p:=by have:=u46.out;omega):p:=h
theorem rQi {p:Prop} (h:p:=by first|omega|(simp;done)):p:=h
theorem sQi {p:Prop} (h:p:=by rw[←hb5];exact Fb4.rd):p:=h
theorem tQi {p:Prop} (h:p:=by rw[←hz];simp[chgB,hx]):p:=h
end Go.Proofs.YtckfdbjjjgfbfaaGreat
