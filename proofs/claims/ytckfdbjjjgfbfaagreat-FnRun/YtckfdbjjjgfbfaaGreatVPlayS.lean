import Derived.Test.YtckfdbjjjgfbfaaGreatVPlayB
set_option linter.unusedVariables false
set_option linter.unusedSimpArgs false
set_option maxRecDepth 100000
namespace Go.Proofs.YtckfdbjjjgfbfaaGreat
open Go.RowKit
def St.readP (s:St) (l:List UInt8) (m k:Int):St:=⟨useL (s.place m k).2.c l ((s.place m k).2.b.get (s.place m k).1),(s.place m k).2.b.rd (s.place m k).1⟩
def St.writeP (s:St) (l:List UInt8) (m k:Int):St:=⟨(s.place m k).2.c,(s.place m k).2.b.put (s.place m k).1 (iCA (s.place m k).2.c l)⟩
def St.modP (s:St) (l:List UInt8) (m k:Int):St:=
 let a:=(s.place m k).1;let t:=(s.place m k).2
 ⟨t.c.chg l (t.b.get a),((t.b.rd a).put a (t.b.get a)).put a (chgB l (t.b.get a) t.c.C)⟩
def St.branchP (s:St) (l:List UInt8):St:=
 if aBA s.fetch.2.c l then
  ⟨{ s.fetch.2.c with PC:=(s.fetch.2.c.PC+offN s.fetch.1) % 65536 },
   if rAA s.fetch.2.c.PC ((s.fetch.2.c.PC+offN s.fetch.1) % 65536)=(s.fetch.2.c.PC+offN s.fetch.1) % 65536 then s.fetch.2.idle.b else s.fetch.2.idle.b.rd (rAA s.fetch.2.c.PC ((s.fetch.2.c.PC+offN s.fetch.1) % 65536))⟩
 else s.fetch.2
def St.jumpP (s:St) (m:Int):St:=
 if m=9 then ⟨{ s.fetchW.2.c with PC:=(s.fetchW.2.readW s.fetchW.1).1 },(s.fetchW.2.readW s.fetchW.1).2.b⟩ else ⟨{ s.fetchW.2.c with PC:=s.fetchW.1 },s.fetchW.2.b⟩
def St.subP (s:St):St:=
 let t:=s.fetch.2.idleStk.pushPC
 ⟨{ t.c with PC:=word s.fetch.1 (t.b.get t.c.PC) },t.b.rd t.c.PC⟩
def St.backP (s:St):St:=s.idle.idleStk.pullPC.fetch.2
def St.rtiP (s:St):St:=
 let t:=s.idle.idleStk.pull
 (⟨t.2.c.unpack t.1,t.2.b⟩:St).pullPC
def St.brkP (s:St):St:=s.fetch.2.inter 65534 true
def St.pushP (s:St) (l:List UInt8):St:=if l==[80,72,80] then s.idle.push (s.idle.c.pk true) else s.idle.push s.idle.c.A
def St.pullP (s:St) (l:List UInt8):St:=
 let t:=s.idle.idleStk.pull
 if l==[80,76,80] then ⟨t.2.c.unpack t.1,t.2.b⟩ else ⟨{ t.2.c with A:=t.1 }.nz t.1,t.2.b⟩
def St.kindP (f:St) (n:Nat):St:=
 let l:=(lAA n).toList;let m:=iAA n;let q:=eAA n
 if q=1 then ⟨impL f.c l m,f.b.rd f.c.PC⟩
 else if q=2 then f.readP l m q
 else if q=3 then f.writeP l m q
 else if q=4 then f.modP l m q
 else if q=5 then f.branchP l
 else if q=6 then f.jumpP m
 else if q=7 then f.subP
 else if q=8 then f.backP
 else if q=9 then f.rtiP
 else if q=10 then f.brkP
 else if q=11 then f.pushP l
 else f.pullP l
def St.stepP (s:St) (n:Nat):St:=if eAA n=0 then s else s.fetch.2.kindP n
theorem kCB {W:World} {B:Nat} {t:TypeId} {a0 a1 a2 a3 a4 a5 a6 a7 a8 a9 i1 i2 i3:Value} (h:BoxN W B t #[a0,a1,a2,a3,a4,a5,a6,a7,a8,a9,i1,i2,i3]) :
  W.cell? ⟨B,0,none⟩=some a0/\W.cell? ⟨B,1,none⟩=some a1/\W.cell? ⟨B,2,none⟩=some a2/\W.cell? ⟨B,3,none⟩=some a3/\W.cell? ⟨B,4,none⟩=some a4/\W.cell? ⟨B,5,none⟩=some a5/\W.cell? ⟨B,6,none⟩=some a6/\W.cell? ⟨B,7,none⟩=some a7/\W.cell? ⟨B,8,none⟩=some a8/\W.cell? ⟨B,9,none⟩=some a9/\W.cell? ⟨B,10,none⟩=some i1/\W.cell? ⟨B,11,none⟩=some i2/\W.cell? ⟨B,12,none⟩=some i3:=
 ⟨h.cell 0 _ rfl,h.cell 1 _ rfl,h.cell 2 _ rfl,h.cell 3 _ rfl,h.cell 4 _ rfl,h.cell 5 _ rfl,h.cell 6 _ rfl,h.cell 7 _ rfl,h.cell 8 _ rfl,h.cell 9 _ rfl,h.cell 10 _ rfl,h.cell 11 _ rfl,h.cell 12 _ rfl⟩
abbrev wDA:Value:=.agg #[.nilFunc,.func (.func 162) #[] #[],.func (.func 163) #[] #[],.func (.func 164) #[] #[],.func (.func 165) #[] #[],.func (.func 166) #[] #[],.func (.func 167) #[] #[],.func (.func 168) #[] #[],.func (.func 169) #[] #[],.func (.func 170) #[] #[],.func (.func 171) #[] #[],.func (.func 172) #[] #[],.func (.func 173) #[] #[]]
theorem wCA {W:World} {B:Nat} {t:TypeId} {cs:Array Value} (h:BoxN W B t cs) (i:Nat) (u v:Value) (hu:cs[i]?=some u) (hv:v.oneCell'=true):(store ⟨B,i,none⟩ v).run Tryz.prog W=.ok () (W.setCell ⟨B,i,none⟩ v):=by
 have c:=h.cell i u hu;have f:=h.frozen i;rw[run_store Tryz.prog W _ v _ hv];simp[stored,c,f]
theorem bDA (w:World):Calls Tryz.prog 158 #[] w fun e w'=>e=.returned wDA/\Below w.heap.size w w':=by
 obtain⟨W0,h0⟩:∃ r,(w.alloc (.cells #[.nilFunc,.nilFunc,.nilFunc,.nilFunc,.nilFunc,.nilFunc,.nilFunc,.nilFunc,.nilFunc,.nilFunc,.nilFunc,.nilFunc,.nilFunc] 197))=r:=⟨_,rfl⟩;have b0:BoxN W0 w.heap.size 197 #[.nilFunc,.nilFunc,.nilFunc,.nilFunc,.nilFunc,.nilFunc,.nilFunc,.nilFunc,.nilFunc,.nilFunc,.nilFunc,.nilFunc,.nilFunc]:=by rw[<-h0];exact BoxN.new _ _ _
 have d0:Below w.heap.size w W0:=by rw[<-h0];exact (Below.refl _ _).alloc (Nat.le_refl _) _
 obtain⟨W1,h1⟩:∃ r,W0.setCell ⟨w.heap.size,0,none⟩ (.nilFunc)=r:=⟨_,rfl⟩;have b1:BoxN W1 w.heap.size 197 #[.nilFunc,.nilFunc,.nilFunc,.nilFunc,.nilFunc,.nilFunc,.nilFunc,.nilFunc,.nilFunc,.nilFunc,.nilFunc,.nilFunc,.nilFunc]:=by rw[<-h1];exact b0.set 0 (.nilFunc)
 have d1:Below w.heap.size w W1:=by rw[<-h1];exact d0.setCell (Nat.le_refl _) _
 obtain⟨W2,h2⟩:∃ r,W1.setCell ⟨w.heap.size,1,none⟩ (.func (.func 162) #[] #[])=r:=⟨_,rfl⟩;have b2:BoxN W2 w.heap.size 197 #[.nilFunc,.func (.func 162) #[] #[],.nilFunc,.nilFunc,.nilFunc,.nilFunc,.nilFunc,.nilFunc,.nilFunc,.nilFunc,.nilFunc,.nilFunc,.nilFunc]:=by rw[<-h2];exact b1.set 1 (.func (.func 162) #[] #[])
 have d2:Below w.heap.size w W2:=by rw[<-h2];exact d1.setCell (Nat.le_refl _) _
 have s1:=wCA b1 1 .nilFunc (.func (.func 162) #[] #[]) rfl rfl;rw[h2] at s1;obtain⟨W3,h3⟩:∃ r,W2.setCell ⟨w.heap.size,2,none⟩ (.func (.func 163) #[] #[])=r:=⟨_,rfl⟩;have b3:BoxN W3 w.heap.size 197 #[.nilFunc,.func (.func 162) #[] #[],.func (.func 163) #[] #[],.nilFunc,.nilFunc,.nilFunc,.nilFunc,.nilFunc,.nilFunc,.nilFunc,.nilFunc,.nilFunc,.nilFunc]:=by rw[<-h3];exact b2.set 2 (.func (.func 163) #[] #[])
 have d3:Below w.heap.size w W3:=by rw[<-h3];exact d2.setCell (Nat.le_refl _) _
 have s2:=wCA b2 2 .nilFunc (.func (.func 163) #[] #[]) rfl rfl;rw[h3] at s2;obtain⟨W4,h4⟩:∃ r,W3.setCell ⟨w.heap.size,3,none⟩ (.func (.func 164) #[] #[])=r:=⟨_,rfl⟩;have b4:BoxN W4 w.heap.size 197 #[.nilFunc,.func (.func 162) #[] #[],.func (.func 163) #[] #[],.func (.func 164) #[] #[],.nilFunc,.nilFunc,.nilFunc,.nilFunc,.nilFunc,.nilFunc,.nilFunc,.nilFunc,.nilFunc]:=by rw[<-h4];exact b3.set 3 (.func (.func 164) #[] #[])
 have d4:Below w.heap.size w W4:=by rw[<-h4];exact d3.setCell (Nat.le_refl _) _
 have s3:=wCA b3 3 .nilFunc (.func (.func 164) #[] #[]) rfl rfl;rw[h4] at s3;obtain⟨W5,h5⟩:∃ r,W4.setCell ⟨w.heap.size,4,none⟩ (.func (.func 165) #[] #[])=r:=⟨_,rfl⟩;have b5:BoxN W5 w.heap.size 197 #[.nilFunc,.func (.func 162) #[] #[],.func (.func 163) #[] #[],.func (.func 164) #[] #[],.func (.func 165) #[] #[],.nilFunc,.nilFunc,.nilFunc,.nilFunc,.nilFunc,.nilFunc,.nilFunc,.nilFunc]:=by rw[<-h5];exact b4.set 4 (.func (.func 165) #[] #[])
 have d5:Below w.heap.size w W5:=by rw[<-h5];exact d4.setCell (Nat.le_refl _) _
 have s4:=wCA b4 4 .nilFunc (.func (.func 165) #[] #[]) rfl rfl;rw[h5] at s4;obtain⟨W6,h6⟩:∃ r,W5.setCell ⟨w.heap.size,5,none⟩ (.func (.func 166) #[] #[])=r:=⟨_,rfl⟩;have b6:BoxN W6 w.heap.size 197 #[.nilFunc,.func (.func 162) #[] #[],.func (.func 163) #[] #[],.func (.func 164) #[] #[],.func (.func 165) #[] #[],.func (.func 166) #[] #[],.nilFunc,.nilFunc,.nilFunc,.nilFunc,.nilFunc,.nilFunc,.nilFunc]:=by rw[<-h6];exact b5.set 5 (.func (.func 166) #[] #[])
 have d6:Below w.heap.size w W6:=by rw[<-h6];exact d5.setCell (Nat.le_refl _) _
 have s5:=wCA b5 5 .nilFunc (.func (.func 166) #[] #[]) rfl rfl;rw[h6] at s5;obtain⟨W7,h7⟩:∃ r,W6.setCell ⟨w.heap.size,6,none⟩ (.func (.func 167) #[] #[])=r:=⟨_,rfl⟩;have b7:BoxN W7 w.heap.size 197 #[.nilFunc,.func (.func 162) #[] #[],.func (.func 163) #[] #[],.func (.func 164) #[] #[],.func (.func 165) #[] #[],.func (.func 166) #[] #[],.func (.func 167) #[] #[],.nilFunc,.nilFunc,.nilFunc,.nilFunc,.nilFunc,.nilFunc]:=by rw[<-h7];exact b6.set 6 (.func (.func 167) #[] #[])
 have d7:Below w.heap.size w W7:=by rw[<-h7];exact d6.setCell (Nat.le_refl _) _
 have s6:=wCA b6 6 .nilFunc (.func (.func 167) #[] #[]) rfl rfl;rw[h7] at s6;obtain⟨W8,h8⟩:∃ r,W7.setCell ⟨w.heap.size,7,none⟩ (.func (.func 168) #[] #[])=r:=⟨_,rfl⟩;have b8:BoxN W8 w.heap.size 197 #[.nilFunc,.func (.func 162) #[] #[],.func (.func 163) #[] #[],.func (.func 164) #[] #[],.func (.func 165) #[] #[],.func (.func 166) #[] #[],.func (.func 167) #[] #[],.func (.func 168) #[] #[],.nilFunc,.nilFunc,.nilFunc,.nilFunc,.nilFunc]:=by rw[<-h8];exact b7.set 7 (.func (.func 168) #[] #[])
 have d8:Below w.heap.size w W8:=by rw[<-h8];exact d7.setCell (Nat.le_refl _) _
 have s7:=wCA b7 7 .nilFunc (.func (.func 168) #[] #[]) rfl rfl;rw[h8] at s7;obtain⟨W9,h9⟩:∃ r,W8.setCell ⟨w.heap.size,8,none⟩ (.func (.func 169) #[] #[])=r:=⟨_,rfl⟩;have b9:BoxN W9 w.heap.size 197 #[.nilFunc,.func (.func 162) #[] #[],.func (.func 163) #[] #[],.func (.func 164) #[] #[],.func (.func 165) #[] #[],.func (.func 166) #[] #[],.func (.func 167) #[] #[],.func (.func 168) #[] #[],.func (.func 169) #[] #[],.nilFunc,.nilFunc,.nilFunc,.nilFunc]:=by rw[<-h9];exact b8.set 8 (.func (.func 169) #[] #[])
 have d9:Below w.heap.size w W9:=by rw[<-h9];exact d8.setCell (Nat.le_refl _) _
 have s8:=wCA b8 8 .nilFunc (.func (.func 169) #[] #[]) rfl rfl;rw[h9] at s8;obtain⟨e3,h10⟩:∃ r,W9.setCell ⟨w.heap.size,9,none⟩ (.func (.func 170) #[] #[])=r:=⟨_,rfl⟩;have e7:BoxN e3 w.heap.size 197 #[.nilFunc,.func (.func 162) #[] #[],.func (.func 163) #[] #[],.func (.func 164) #[] #[],.func (.func 165) #[] #[],.func (.func 166) #[] #[],.func (.func 167) #[] #[],.func (.func 168) #[] #[],.func (.func 169) #[] #[],.func (.func 170) #[] #[],.nilFunc,.nilFunc,.nilFunc]:=by rw[<-h10];exact b9.set 9 (.func (.func 170) #[] #[])
 have i5:Below w.heap.size w e3:=by rw[<-h10];exact d9.setCell (Nat.le_refl _) _
 have s9:=wCA b9 9 .nilFunc (.func (.func 170) #[] #[]) rfl rfl;rw[h10] at s9;obtain⟨e4,e0⟩:∃ r,e3.setCell ⟨w.heap.size,10,none⟩ (.func (.func 171) #[] #[])=r:=⟨_,rfl⟩;have e8:BoxN e4 w.heap.size 197 #[.nilFunc,.func (.func 162) #[] #[],.func (.func 163) #[] #[],.func (.func 164) #[] #[],.func (.func 165) #[] #[],.func (.func 166) #[] #[],.func (.func 167) #[] #[],.func (.func 168) #[] #[],.func (.func 169) #[] #[],.func (.func 170) #[] #[],.func (.func 171) #[] #[],.nilFunc,.nilFunc]:=by rw[<-e0];exact e7.set 10 (.func (.func 171) #[] #[])
 have i6:Below w.heap.size w e4:=by rw[<-e0];exact i5.setCell (Nat.le_refl _) _
 have j3:=wCA e7 10 .nilFunc (.func (.func 171) #[] #[]) rfl rfl;rw[e0] at j3;obtain⟨e6,e1⟩:∃ r,e4.setCell ⟨w.heap.size,11,none⟩ (.func (.func 172) #[] #[])=r:=⟨_,rfl⟩;have e9:BoxN e6 w.heap.size 197 #[.nilFunc,.func (.func 162) #[] #[],.func (.func 163) #[] #[],.func (.func 164) #[] #[],.func (.func 165) #[] #[],.func (.func 166) #[] #[],.func (.func 167) #[] #[],.func (.func 168) #[] #[],.func (.func 169) #[] #[],.func (.func 170) #[] #[],.func (.func 171) #[] #[],.func (.func 172) #[] #[],.nilFunc]:=by rw[<-e1];exact e8.set 11 (.func (.func 172) #[] #[])
 have i7:Below w.heap.size w e6:=by rw[<-e1];exact i6.setCell (Nat.le_refl _) _
 have j4:=wCA e8 11 .nilFunc (.func (.func 172) #[] #[]) rfl rfl;rw[e1] at j4;obtain⟨i0,e2⟩:∃ r,e6.setCell ⟨w.heap.size,12,none⟩ (.func (.func 173) #[] #[])=r:=⟨_,rfl⟩;have i4:BoxN i0 w.heap.size 197 #[.nilFunc,.func (.func 162) #[] #[],.func (.func 163) #[] #[],.func (.func 164) #[] #[],.func (.func 165) #[] #[],.func (.func 166) #[] #[],.func (.func 167) #[] #[],.func (.func 168) #[] #[],.func (.func 169) #[] #[],.func (.func 170) #[] #[],.func (.func 171) #[] #[],.func (.func 172) #[] #[],.func (.func 173) #[] #[]]:=by rw[<-e2];exact e9.set 12 (.func (.func 173) #[] #[])
 have i9:Below w.heap.size w i0:=by rw[<-e2];exact i7.setCell (Nat.le_refl _) _
 have j5:=wCA e9 12 .nilFunc (.func (.func 173) #[] #[]) rfl rfl;rw[e2] at j5;have s0:=wCA b0 0 .nilFunc .nilFunc rfl rfl;rw[h1,<-h0] at s0;have z:=i4;have HD:=j_ i9;have HZ:=j_ z;clear z h0;clear b0 d0 b1 d1 b2 d2 b3 d3 b4 d4 b5 d5 b6 d6 b7 d7 b8 d8 b9 d9 e7 i5 e8 i6 e9 i7 i4 i9 h1 h2 h3 h4 h5 h6 h7 h8 h9 h10 e0 e1 e2;go_enter Tryz.func158,Tryz.ntmps158;go_wp2;obtain⟨c0,c1,c2,c3,c4,c5,c6,c7,c8,c9,j0,j1,j2⟩:=kCB HZ.out;refine bodyPost_ret (v:=wDA) (by simp[results,Tryz.results158,go_sem,c0,c1,c2,c3,c4,c5,c6,c7,c8,c9,j0,j1,j2]) rfl ⟨rfl,HD.out⟩
theorem Play.step_none {F:Nat->Prop} {w W:World} {P:Nat} {o:Option Nat} {k:OpK} {s:St} {N:Nat} (p:Play F w W P o k s N) (hk:k.kd=0) (hN:N<=90) {s':St} (hs:s=s') :
  Calls Tryz.prog 152 #[.pointer (some ⟨P,0,none⟩)] W fun e w'=>e=.returned (.tuple #[])/\Play F w w' P o k s' (N+0):=by
 obtain⟨hA,hX,hY,hS,hP⟩:=p.pl.ok;go_enter Tryz.func152,Tryz.ntmps152;obtain⟨g0,g1,g2,g3,g4,g5,g6,g7,g8,g9,g10,E,J,K,j,R⟩:=p.cells;rw[hk] at j;go_wp2
 (try simp only[Exit.inBlock,Exit.then])
 first|refine bodyPost_ret (results_none rfl _ _ _) rfl ?_|refine bodyPost_end (results_none rfl _ _ _) rfl ?_
 refine⟨rfl,?_⟩;exact (by subst hs;exact p)
theorem Play.step_1 {F:Nat->Prop} {w W:World} {P:Nat} {o:Option Nat} {k:OpK} {s:St} {N:Nat} (p:Play F w W P o k s N) {t:St} (hk:k.kd=1) (H:∀ Q,Play F w Q P o k s.fetch.2 (N+1)->Calls Tryz.prog 162 #[.pointer (some ⟨P,0,none⟩)] Q fun e w'=>e=.returned (.tuple #[])/\Play F w w' P o k t (N+9)) (hN:N<=72) {s':St} (hs:t=s') :
  Calls Tryz.prog 152 #[.pointer (some ⟨P,0,none⟩)] W fun e w'=>e=.returned (.tuple #[])/\Play F w w' P o k s' (N+9):=by
 obtain⟨hA,hX,hY,hS,hP⟩:=p.pl.ok;obtain⟨s1,hs1⟩:∃ r,s.fetch.2=r:=⟨_,rfl⟩;rw[hs1] at H;subst hs;have T:∀ w:World,(Instr.index 197 wDA (.int .i64 1)).run Tryz.prog w=.ok (.func (.func 162) #[] #[]) w:=fun _=>gQ
 have O:=j_ hs1;clear hs1;go_enter Tryz.func152,Tryz.ntmps152;obtain⟨g0,g1,g2,g3,g4,g5,g6,g7,g8,g9,g10,E,J,K,j,R⟩:=p.cells;rw[hk] at j;go_wp2_with fail;refine (p.fetch dQ rfl O.out).mono ?_;rintro e U ⟨rfl,p2⟩;clear g0 g1 g2 g3 g4 g5 g6 g7 g8 g9 g10 E J K j R;go_wp2_with fail;have p3:=p2.drew;have j:U.drew.cell? ⟨P,15,none⟩=some (.int .i64 1):=gQa;go_region_held3 (fun w'=>w'.cell? ⟨P,15,none⟩=some (.int .i64 1)) (((try dsimp only);(first|(with_reducible exact j)|(with_reducible exact hx)))) (first|(go_at_call 158;refine (bDA _).mono ?_;rintro e wp ⟨rfl,dp⟩;(have pp:=p3.below dp);(have hx:wp.cell? ⟨P,15,none⟩=some (.int .i64 1):=by rw[<-hk];exact pp.cells.2.2.2.2.2.2.2.2.2.2.2.2.2.2.1)));clear j hx;go_wp2_with fail;refine (H _ pp).mono ?_;rintro e w4 ⟨rfl,p5⟩;clear pp;go_wp2
 (try simp only[Exit.inBlock,Exit.then])
 first|refine bodyPost_ret (results_none rfl _ _ _) rfl ?_|refine bodyPost_end (results_none rfl _ _ _) rfl ?_
 refine⟨rfl,?_⟩;exact p5
theorem Play.step_2 {F:Nat->Prop} {w W:World} {P:Nat} {o:Option Nat} {k:OpK} {s:St} {N:Nat} (p:Play F w W P o k s N) {t:St} (hk:k.kd=2) (H:∀ Q,Play F w Q P o k s.fetch.2 (N+1)->Calls Tryz.prog 163 #[.pointer (some ⟨P,0,none⟩)] Q fun e w'=>e=.returned (.tuple #[])/\Play F w w' P o k t (N+9)) (hN:N<=72) {s':St} (hs:t=s') :
  Calls Tryz.prog 152 #[.pointer (some ⟨P,0,none⟩)] W fun e w'=>e=.returned (.tuple #[])/\Play F w w' P o k s' (N+9):=by
 obtain⟨hA,hX,hY,hS,hP⟩:=p.pl.ok;obtain⟨s1,hs1⟩:∃ r,s.fetch.2=r:=⟨_,rfl⟩;rw[hs1] at H;subst hs;have T:∀ w:World,(Instr.index 197 wDA (.int .i64 2)).run Tryz.prog w=.ok (.func (.func 163) #[] #[]) w:=fun _=>gQ
 have O:=j_ hs1;clear hs1;go_enter Tryz.func152,Tryz.ntmps152;obtain⟨g0,g1,g2,g3,g4,g5,g6,g7,g8,g9,g10,E,J,K,j,R⟩:=p.cells;rw[hk] at j;go_wp2_with fail;refine (p.fetch dQ rfl O.out).mono ?_;rintro e U ⟨rfl,p2⟩;clear g0 g1 g2 g3 g4 g5 g6 g7 g8 g9 g10 E J K j R;go_wp2_with fail;have p3:=p2.drew;have j:U.drew.cell? ⟨P,15,none⟩=some (.int .i64 2):=gQa;go_region_held3 (fun w'=>w'.cell? ⟨P,15,none⟩=some (.int .i64 2)) (((try dsimp only);(first|(with_reducible exact j)|(with_reducible exact hx)))) (first|(go_at_call 158;refine (bDA _).mono ?_;rintro e wp ⟨rfl,dp⟩;(have pp:=p3.below dp);(have hx:wp.cell? ⟨P,15,none⟩=some (.int .i64 2):=by rw[<-hk];exact pp.cells.2.2.2.2.2.2.2.2.2.2.2.2.2.2.1)));clear j hx;go_wp2_with fail;refine (H _ pp).mono ?_;rintro e w4 ⟨rfl,p5⟩;clear pp;go_wp2
 (try simp only[Exit.inBlock,Exit.then])
 first|refine bodyPost_ret (results_none rfl _ _ _) rfl ?_|refine bodyPost_end (results_none rfl _ _ _) rfl ?_
 refine⟨rfl,?_⟩;exact p5
theorem Play.step_3 {F:Nat->Prop} {w W:World} {P:Nat} {o:Option Nat} {k:OpK} {s:St} {N:Nat} (p:Play F w W P o k s N) {t:St} (hk:k.kd=3) (H:∀ Q,Play F w Q P o k s.fetch.2 (N+1)->Calls Tryz.prog 164 #[.pointer (some ⟨P,0,none⟩)] Q fun e w'=>e=.returned (.tuple #[])/\Play F w w' P o k t (N+9)) (hN:N<=72) {s':St} (hs:t=s') :
  Calls Tryz.prog 152 #[.pointer (some ⟨P,0,none⟩)] W fun e w'=>e=.returned (.tuple #[])/\Play F w w' P o k s' (N+9):=by
 obtain⟨hA,hX,hY,hS,hP⟩:=p.pl.ok;obtain⟨s1,hs1⟩:∃ r,s.fetch.2=r:=⟨_,rfl⟩;rw[hs1] at H;subst hs;have T:∀ w:World,(Instr.index 197 wDA (.int .i64 3)).run Tryz.prog w=.ok (.func (.func 164) #[] #[]) w:=fun _=>gQ
 have O:=j_ hs1;clear hs1;go_enter Tryz.func152,Tryz.ntmps152;obtain⟨g0,g1,g2,g3,g4,g5,g6,g7,g8,g9,g10,E,J,K,j,R⟩:=p.cells;rw[hk] at j;go_wp2_with fail;refine (p.fetch dQ rfl O.out).mono ?_;rintro e U ⟨rfl,p2⟩;clear g0 g1 g2 g3 g4 g5 g6 g7 g8 g9 g10 E J K j R;go_wp2_with fail;have p3:=p2.drew;have j:U.drew.cell? ⟨P,15,none⟩=some (.int .i64 3):=gQa;go_region_held3 (fun w'=>w'.cell? ⟨P,15,none⟩=some (.int .i64 3)) (((try dsimp only);(first|(with_reducible exact j)|(with_reducible exact hx)))) (first|(go_at_call 158;refine (bDA _).mono ?_;rintro e wp ⟨rfl,dp⟩;(have pp:=p3.below dp);(have hx:wp.cell? ⟨P,15,none⟩=some (.int .i64 3):=by rw[<-hk];exact pp.cells.2.2.2.2.2.2.2.2.2.2.2.2.2.2.1)));clear j hx;go_wp2_with fail;refine (H _ pp).mono ?_;rintro e w4 ⟨rfl,p5⟩;clear pp;go_wp2
 (try simp only[Exit.inBlock,Exit.then])
 first|refine bodyPost_ret (results_none rfl _ _ _) rfl ?_|refine bodyPost_end (results_none rfl _ _ _) rfl ?_
 refine⟨rfl,?_⟩;exact p5
theorem Play.step_4 {F:Nat->Prop} {w W:World} {P:Nat} {o:Option Nat} {k:OpK} {s:St} {N:Nat} (p:Play F w W P o k s N) {t:St} (hk:k.kd=4) (H:∀ Q,Play F w Q P o k s.fetch.2 (N+1)->Calls Tryz.prog 165 #[.pointer (some ⟨P,0,none⟩)] Q fun e w'=>e=.returned (.tuple #[])/\Play F w w' P o k t (N+9)) (hN:N<=72) {s':St} (hs:t=s') :
  Calls Tryz.prog 152 #[.pointer (some ⟨P,0,none⟩)] W fun e w'=>e=.returned (.tuple #[])/\Play F w w' P o k s' (N+9):=by
 obtain⟨hA,hX,hY,hS,hP⟩:=p.pl.ok;obtain⟨s1,hs1⟩:∃ r,s.fetch.2=r:=⟨_,rfl⟩;rw[hs1] at H;subst hs;have T:∀ w:World,(Instr.index 197 wDA (.int .i64 4)).run Tryz.prog w=.ok (.func (.func 165) #[] #[]) w:=fun _=>gQ
 have O:=j_ hs1;clear hs1;go_enter Tryz.func152,Tryz.ntmps152;obtain⟨g0,g1,g2,g3,g4,g5,g6,g7,g8,g9,g10,E,J,K,j,R⟩:=p.cells;rw[hk] at j;go_wp2_with fail;refine (p.fetch dQ rfl O.out).mono ?_;rintro e U ⟨rfl,p2⟩;clear g0 g1 g2 g3 g4 g5 g6 g7 g8 g9 g10 E J K j R;go_wp2_with fail;have p3:=p2.drew;have j:U.drew.cell? ⟨P,15,none⟩=some (.int .i64 4):=gQa;go_region_held3 (fun w'=>w'.cell? ⟨P,15,none⟩=some (.int .i64 4)) (((try dsimp only);(first|(with_reducible exact j)|(with_reducible exact hx)))) (first|(go_at_call 158;refine (bDA _).mono ?_;rintro e wp ⟨rfl,dp⟩;(have pp:=p3.below dp);(have hx:wp.cell? ⟨P,15,none⟩=some (.int .i64 4):=by rw[<-hk];exact pp.cells.2.2.2.2.2.2.2.2.2.2.2.2.2.2.1)));clear j hx;go_wp2_with fail;refine (H _ pp).mono ?_;rintro e w4 ⟨rfl,p5⟩;clear pp;go_wp2
 (try simp only[Exit.inBlock,Exit.then])
 first|refine bodyPost_ret (results_none rfl _ _ _) rfl ?_|refine bodyPost_end (results_none rfl _ _ _) rfl ?_
 refine⟨rfl,?_⟩;exact p5
theorem Play.step_5 {F:Nat->Prop} {w W:World} {P:Nat} {o:Option Nat} {k:OpK} {s:St} {N:Nat} (p:Play F w W P o k s N) {t:St} (hk:k.kd=5) (H:∀ Q,Play F w Q P o k s.fetch.2 (N+1)->Calls Tryz.prog 166 #[.pointer (some ⟨P,0,none⟩)] Q fun e w'=>e=.returned (.tuple #[])/\Play F w w' P o k t (N+9)) (hN:N<=72) {s':St} (hs:t=s') :
  Calls Tryz.prog 152 #[.pointer (some ⟨P,0,none⟩)] W fun e w'=>e=.returned (.tuple #[])/\Play F w w' P o k s' (N+9):=by
 obtain⟨hA,hX,hY,hS,hP⟩:=p.pl.ok;obtain⟨s1,hs1⟩:∃ r,s.fetch.2=r:=⟨_,rfl⟩;rw[hs1] at H;subst hs;have T:∀ w:World,(Instr.index 197 wDA (.int .i64 5)).run Tryz.prog w=.ok (.func (.func 166) #[] #[]) w:=fun _=>gQ
 have O:=j_ hs1;clear hs1;go_enter Tryz.func152,Tryz.ntmps152;obtain⟨g0,g1,g2,g3,g4,g5,g6,g7,g8,g9,g10,E,J,K,j,R⟩:=p.cells;rw[hk] at j;go_wp2_with fail;refine (p.fetch dQ rfl O.out).mono ?_;rintro e U ⟨rfl,p2⟩;clear g0 g1 g2 g3 g4 g5 g6 g7 g8 g9 g10 E J K j R;go_wp2_with fail;have p3:=p2.drew;have j:U.drew.cell? ⟨P,15,none⟩=some (.int .i64 5):=gQa;go_region_held3 (fun w'=>w'.cell? ⟨P,15,none⟩=some (.int .i64 5)) (((try dsimp only);(first|(with_reducible exact j)|(with_reducible exact hx)))) (first|(go_at_call 158;refine (bDA _).mono ?_;rintro e wp ⟨rfl,dp⟩;(have pp:=p3.below dp);(have hx:wp.cell? ⟨P,15,none⟩=some (.int .i64 5):=by rw[<-hk];exact pp.cells.2.2.2.2.2.2.2.2.2.2.2.2.2.2.1)));clear j hx;go_wp2_with fail;refine (H _ pp).mono ?_;rintro e w4 ⟨rfl,p5⟩;clear pp;go_wp2
 (try simp only[Exit.inBlock,Exit.then])
 first|refine bodyPost_ret (results_none rfl _ _ _) rfl ?_|refine bodyPost_end (results_none rfl _ _ _) rfl ?_
 refine⟨rfl,?_⟩;exact p5
theorem Play.step_6 {F:Nat->Prop} {w W:World} {P:Nat} {o:Option Nat} {k:OpK} {s:St} {N:Nat} (p:Play F w W P o k s N) {t:St} (hk:k.kd=6) (H:∀ Q,Play F w Q P o k s.fetch.2 (N+1)->Calls Tryz.prog 167 #[.pointer (some ⟨P,0,none⟩)] Q fun e w'=>e=.returned (.tuple #[])/\Play F w w' P o k t (N+9)) (hN:N<=72) {s':St} (hs:t=s') :
  Calls Tryz.prog 152 #[.pointer (some ⟨P,0,none⟩)] W fun e w'=>e=.returned (.tuple #[])/\Play F w w' P o k s' (N+9):=by
 obtain⟨hA,hX,hY,hS,hP⟩:=p.pl.ok;obtain⟨s1,hs1⟩:∃ r,s.fetch.2=r:=⟨_,rfl⟩;rw[hs1] at H;subst hs;have T:∀ w:World,(Instr.index 197 wDA (.int .i64 6)).run Tryz.prog w=.ok (.func (.func 167) #[] #[]) w:=fun _=>gQ
 have O:=j_ hs1;clear hs1;go_enter Tryz.func152,Tryz.ntmps152;obtain⟨g0,g1,g2,g3,g4,g5,g6,g7,g8,g9,g10,E,J,K,j,R⟩:=p.cells;rw[hk] at j;go_wp2_with fail;refine (p.fetch dQ rfl O.out).mono ?_;rintro e U ⟨rfl,p2⟩;clear g0 g1 g2 g3 g4 g5 g6 g7 g8 g9 g10 E J K j R;go_wp2_with fail;have p3:=p2.drew;have j:U.drew.cell? ⟨P,15,none⟩=some (.int .i64 6):=gQa;go_region_held3 (fun w'=>w'.cell? ⟨P,15,none⟩=some (.int .i64 6)) (((try dsimp only);(first|(with_reducible exact j)|(with_reducible exact hx)))) (first|(go_at_call 158;refine (bDA _).mono ?_;rintro e wp ⟨rfl,dp⟩;(have pp:=p3.below dp);(have hx:wp.cell? ⟨P,15,none⟩=some (.int .i64 6):=by rw[<-hk];exact pp.cells.2.2.2.2.2.2.2.2.2.2.2.2.2.2.1)));clear j hx;go_wp2_with fail;refine (H _ pp).mono ?_;rintro e w4 ⟨rfl,p5⟩;clear pp;go_wp2
 (try simp only[Exit.inBlock,Exit.then])
 first|refine bodyPost_ret (results_none rfl _ _ _) rfl ?_|refine bodyPost_end (results_none rfl _ _ _) rfl ?_
 refine⟨rfl,?_⟩;exact p5
theorem Play.step_7 {F:Nat->Prop} {w W:World} {P:Nat} {o:Option Nat} {k:OpK} {s:St} {N:Nat} (p:Play F w W P o k s N) {t:St} (hk:k.kd=7) (H:∀ Q,Play F w Q P o k s.fetch.2 (N+1)->Calls Tryz.prog 168 #[.pointer (some ⟨P,0,none⟩)] Q fun e w'=>e=.returned (.tuple #[])/\Play F w w' P o k t (N+9)) (hN:N<=72) {s':St} (hs:t=s') :
  Calls Tryz.prog 152 #[.pointer (some ⟨P,0,none⟩)] W fun e w'=>e=.returned (.tuple #[])/\Play F w w' P o k s' (N+9):=by
 obtain⟨hA,hX,hY,hS,hP⟩:=p.pl.ok;obtain⟨s1,hs1⟩:∃ r,s.fetch.2=r:=⟨_,rfl⟩;rw[hs1] at H;subst hs;have T:∀ w:World,(Instr.index 197 wDA (.int .i64 7)).run Tryz.prog w=.ok (.func (.func 168) #[] #[]) w:=fun _=>gQ
 have O:=j_ hs1;clear hs1;go_enter Tryz.func152,Tryz.ntmps152;obtain⟨g0,g1,g2,g3,g4,g5,g6,g7,g8,g9,g10,E,J,K,j,R⟩:=p.cells;rw[hk] at j;go_wp2_with fail;refine (p.fetch dQ rfl O.out).mono ?_;rintro e U ⟨rfl,p2⟩;clear g0 g1 g2 g3 g4 g5 g6 g7 g8 g9 g10 E J K j R;go_wp2_with fail;have p3:=p2.drew;have j:U.drew.cell? ⟨P,15,none⟩=some (.int .i64 7):=gQa;go_region_held3 (fun w'=>w'.cell? ⟨P,15,none⟩=some (.int .i64 7)) (((try dsimp only);(first|(with_reducible exact j)|(with_reducible exact hx)))) (first|(go_at_call 158;refine (bDA _).mono ?_;rintro e wp ⟨rfl,dp⟩;(have pp:=p3.below dp);(have hx:wp.cell? ⟨P,15,none⟩=some (.int .i64 7):=by rw[<-hk];exact pp.cells.2.2.2.2.2.2.2.2.2.2.2.2.2.2.1)));clear j hx;go_wp2_with fail;refine (H _ pp).mono ?_;rintro e w4 ⟨rfl,p5⟩;clear pp;go_wp2
 (try simp only[Exit.inBlock,Exit.then])
 first|refine bodyPost_ret (results_none rfl _ _ _) rfl ?_|refine bodyPost_end (results_none rfl _ _ _) rfl ?_
 refine⟨rfl,?_⟩;exact p5
theorem Play.step_8 {F:Nat->Prop} {w W:World} {P:Nat} {o:Option Nat} {k:OpK} {s:St} {N:Nat} (p:Play F w W P o k s N) {t:St} (hk:k.kd=8) (H:∀ Q,Play F w Q P o k s.fetch.2 (N+1)->Calls Tryz.prog 169 #[.pointer (some ⟨P,0,none⟩)] Q fun e w'=>e=.returned (.tuple #[])/\Play F w w' P o k t (N+9)) (hN:N<=72) {s':St} (hs:t=s') :
  Calls Tryz.prog 152 #[.pointer (some ⟨P,0,none⟩)] W fun e w'=>e=.returned (.tuple #[])/\Play F w w' P o k s' (N+9):=by
 obtain⟨hA,hX,hY,hS,hP⟩:=p.pl.ok;obtain⟨s1,hs1⟩:∃ r,s.fetch.2=r:=⟨_,rfl⟩;rw[hs1] at H;subst hs;have T:∀ w:World,(Instr.index 197 wDA (.int .i64 8)).run Tryz.prog w=.ok (.func (.func 169) #[] #[]) w:=fun _=>gQ
 have O:=j_ hs1;clear hs1;go_enter Tryz.func152,Tryz.ntmps152;obtain⟨g0,g1,g2,g3,g4,g5,g6,g7,g8,g9,g10,E,J,K,j,R⟩:=p.cells;rw[hk] at j;go_wp2_with fail;refine (p.fetch dQ rfl O.out).mono ?_;rintro e U ⟨rfl,p2⟩;clear g0 g1 g2 g3 g4 g5 g6 g7 g8 g9 g10 E J K j R;go_wp2_with fail;have p3:=p2.drew;have j:U.drew.cell? ⟨P,15,none⟩=some (.int .i64 8):=gQa;go_region_held3 (fun w'=>w'.cell? ⟨P,15,none⟩=some (.int .i64 8)) (((try dsimp only);(first|(with_reducible exact j)|(with_reducible exact hx)))) (first|(go_at_call 158;refine (bDA _).mono ?_;rintro e wp ⟨rfl,dp⟩;(have pp:=p3.below dp);(have hx:wp.cell? ⟨P,15,none⟩=some (.int .i64 8):=by rw[<-hk];exact pp.cells.2.2.2.2.2.2.2.2.2.2.2.2.2.2.1)));clear j hx;go_wp2_with fail;refine (H _ pp).mono ?_;rintro e w4 ⟨rfl,p5⟩;clear pp;go_wp2
 (try simp only[Exit.inBlock,Exit.then])
 first|refine bodyPost_ret (results_none rfl _ _ _) rfl ?_|refine bodyPost_end (results_none rfl _ _ _) rfl ?_
 refine⟨rfl,?_⟩;exact p5
theorem Play.step_9 {F:Nat->Prop} {w W:World} {P:Nat} {o:Option Nat} {k:OpK} {s:St} {N:Nat} (p:Play F w W P o k s N) {t:St} (hk:k.kd=9) (H:∀ Q,Play F w Q P o k s.fetch.2 (N+1)->Calls Tryz.prog 170 #[.pointer (some ⟨P,0,none⟩)] Q fun e w'=>e=.returned (.tuple #[])/\Play F w w' P o k t (N+9)) (hN:N<=72) {s':St} (hs:t=s') :
  Calls Tryz.prog 152 #[.pointer (some ⟨P,0,none⟩)] W fun e w'=>e=.returned (.tuple #[])/\Play F w w' P o k s' (N+9):=by
 obtain⟨hA,hX,hY,hS,hP⟩:=p.pl.ok;obtain⟨s1,hs1⟩:∃ r,s.fetch.2=r:=⟨_,rfl⟩;rw[hs1] at H;subst hs;have T:∀ w:World,(Instr.index 197 wDA (.int .i64 9)).run Tryz.prog w=.ok (.func (.func 170) #[] #[]) w:=fun _=>gQ
 have O:=j_ hs1;clear hs1;go_enter Tryz.func152,Tryz.ntmps152;obtain⟨g0,g1,g2,g3,g4,g5,g6,g7,g8,g9,g10,E,J,K,j,R⟩:=p.cells;rw[hk] at j;go_wp2_with fail;refine (p.fetch dQ rfl O.out).mono ?_;rintro e U ⟨rfl,p2⟩;clear g0 g1 g2 g3 g4 g5 g6 g7 g8 g9 g10 E J K j R;go_wp2_with fail;have p3:=p2.drew;have j:U.drew.cell? ⟨P,15,none⟩=some (.int .i64 9):=gQa;go_region_held3 (fun w'=>w'.cell? ⟨P,15,none⟩=some (.int .i64 9)) (((try dsimp only);(first|(with_reducible exact j)|(with_reducible exact hx)))) (first|(go_at_call 158;refine (bDA _).mono ?_;rintro e wp ⟨rfl,dp⟩;(have pp:=p3.below dp);(have hx:wp.cell? ⟨P,15,none⟩=some (.int .i64 9):=by rw[<-hk];exact pp.cells.2.2.2.2.2.2.2.2.2.2.2.2.2.2.1)));clear j hx;go_wp2_with fail;refine (H _ pp).mono ?_;rintro e w4 ⟨rfl,p5⟩;clear pp;go_wp2
 (try simp only[Exit.inBlock,Exit.then])
 first|refine bodyPost_ret (results_none rfl _ _ _) rfl ?_|refine bodyPost_end (results_none rfl _ _ _) rfl ?_
 refine⟨rfl,?_⟩;exact p5
theorem Play.step_10 {F:Nat->Prop} {w W:World} {P:Nat} {o:Option Nat} {k:OpK} {s:St} {N:Nat} (p:Play F w W P o k s N) {t:St} (hk:k.kd=10) (H:∀ Q,Play F w Q P o k s.fetch.2 (N+1)->Calls Tryz.prog 171 #[.pointer (some ⟨P,0,none⟩)] Q fun e w'=>e=.returned (.tuple #[])/\Play F w w' P o k t (N+9)) (hN:N<=72) {s':St} (hs:t=s') :
  Calls Tryz.prog 152 #[.pointer (some ⟨P,0,none⟩)] W fun e w'=>e=.returned (.tuple #[])/\Play F w w' P o k s' (N+9):=by
 obtain⟨hA,hX,hY,hS,hP⟩:=p.pl.ok;obtain⟨s1,hs1⟩:∃ r,s.fetch.2=r:=⟨_,rfl⟩;rw[hs1] at H;subst hs;have T:∀ w:World,(Instr.index 197 wDA (.int .i64 10)).run Tryz.prog w=.ok (.func (.func 171) #[] #[]) w:=fun _=>gQ
 have O:=j_ hs1;clear hs1;go_enter Tryz.func152,Tryz.ntmps152;obtain⟨g0,g1,g2,g3,g4,g5,g6,g7,g8,g9,g10,E,J,K,j,R⟩:=p.cells;rw[hk] at j;go_wp2_with fail;refine (p.fetch dQ rfl O.out).mono ?_;rintro e U ⟨rfl,p2⟩;clear g0 g1 g2 g3 g4 g5 g6 g7 g8 g9 g10 E J K j R;go_wp2_with fail;have p3:=p2.drew;have j:U.drew.cell? ⟨P,15,none⟩=some (.int .i64 10):=gQa;go_region_held3 (fun w'=>w'.cell? ⟨P,15,none⟩=some (.int .i64 10)) (((try dsimp only);(first|(with_reducible exact j)|(with_reducible exact hx)))) (first|(go_at_call 158;refine (bDA _).mono ?_;rintro e wp ⟨rfl,dp⟩;(have pp:=p3.below dp);(have hx:wp.cell? ⟨P,15,none⟩=some (.int .i64 10):=by rw[<-hk];exact pp.cells.2.2.2.2.2.2.2.2.2.2.2.2.2.2.1)));clear j hx;go_wp2_with fail;refine (H _ pp).mono ?_;rintro e w4 ⟨rfl,p5⟩;clear pp;go_wp2
 (try simp only[Exit.inBlock,Exit.then])
 first|refine bodyPost_ret (results_none rfl _ _ _) rfl ?_|refine bodyPost_end (results_none rfl _ _ _) rfl ?_
 refine⟨rfl,?_⟩;exact p5
theorem Play.step_11 {F:Nat->Prop} {w W:World} {P:Nat} {o:Option Nat} {k:OpK} {s:St} {N:Nat} (p:Play F w W P o k s N) {t:St} (hk:k.kd=11) (H:∀ Q,Play F w Q P o k s.fetch.2 (N+1)->Calls Tryz.prog 172 #[.pointer (some ⟨P,0,none⟩)] Q fun e w'=>e=.returned (.tuple #[])/\Play F w w' P o k t (N+9)) (hN:N<=72) {s':St} (hs:t=s') :
  Calls Tryz.prog 152 #[.pointer (some ⟨P,0,none⟩)] W fun e w'=>e=.returned (.tuple #[])/\Play F w w' P o k s' (N+9):=by
 obtain⟨hA,hX,hY,hS,hP⟩:=p.pl.ok;obtain⟨s1,hs1⟩:∃ r,s.fetch.2=r:=⟨_,rfl⟩;rw[hs1] at H;subst hs;have T:∀ w:World,(Instr.index 197 wDA (.int .i64 11)).run Tryz.prog w=.ok (.func (.func 172) #[] #[]) w:=fun _=>gQ
 have O:=j_ hs1;clear hs1;go_enter Tryz.func152,Tryz.ntmps152;obtain⟨g0,g1,g2,g3,g4,g5,g6,g7,g8,g9,g10,E,J,K,j,R⟩:=p.cells;rw[hk] at j;go_wp2_with fail;refine (p.fetch dQ rfl O.out).mono ?_;rintro e U ⟨rfl,p2⟩;clear g0 g1 g2 g3 g4 g5 g6 g7 g8 g9 g10 E J K j R;go_wp2_with fail;have p3:=p2.drew;have j:U.drew.cell? ⟨P,15,none⟩=some (.int .i64 11):=gQa;go_region_held3 (fun w'=>w'.cell? ⟨P,15,none⟩=some (.int .i64 11)) (((try dsimp only);(first|(with_reducible exact j)|(with_reducible exact hx)))) (first|(go_at_call 158;refine (bDA _).mono ?_;rintro e wp ⟨rfl,dp⟩;(have pp:=p3.below dp);(have hx:wp.cell? ⟨P,15,none⟩=some (.int .i64 11):=by rw[<-hk];exact pp.cells.2.2.2.2.2.2.2.2.2.2.2.2.2.2.1)));clear j hx;go_wp2_with fail;refine (H _ pp).mono ?_;rintro e w4 ⟨rfl,p5⟩;clear pp;go_wp2
 (try simp only[Exit.inBlock,Exit.then])
 first|refine bodyPost_ret (results_none rfl _ _ _) rfl ?_|refine bodyPost_end (results_none rfl _ _ _) rfl ?_
 refine⟨rfl,?_⟩;exact p5
theorem Play.step_12 {F:Nat->Prop} {w W:World} {P:Nat} {o:Option Nat} {k:OpK} {s:St} {N:Nat} (p:Play F w W P o k s N) {t:St} (hk:k.kd=12) (H:∀ Q,Play F w Q P o k s.fetch.2 (N+1)->Calls Tryz.prog 173 #[.pointer (some ⟨P,0,none⟩)] Q fun e w'=>e=.returned (.tuple #[])/\Play F w w' P o k t (N+9)) (hN:N<=72) {s':St} (hs:t=s') :
  Calls Tryz.prog 152 #[.pointer (some ⟨P,0,none⟩)] W fun e w'=>e=.returned (.tuple #[])/\Play F w w' P o k s' (N+9):=by
 obtain⟨hA,hX,hY,hS,hP⟩:=p.pl.ok;obtain⟨s1,hs1⟩:∃ r,s.fetch.2=r:=⟨_,rfl⟩;rw[hs1] at H;subst hs;have T:∀ w:World,(Instr.index 197 wDA (.int .i64 12)).run Tryz.prog w=.ok (.func (.func 173) #[] #[]) w:=fun _=>gQ
 have O:=j_ hs1;clear hs1;go_enter Tryz.func152,Tryz.ntmps152;obtain⟨g0,g1,g2,g3,g4,g5,g6,g7,g8,g9,g10,E,J,K,j,R⟩:=p.cells;rw[hk] at j;go_wp2_with fail;refine (p.fetch dQ rfl O.out).mono ?_;rintro e U ⟨rfl,p2⟩;clear g0 g1 g2 g3 g4 g5 g6 g7 g8 g9 g10 E J K j R;go_wp2_with fail;have p3:=p2.drew;have j:U.drew.cell? ⟨P,15,none⟩=some (.int .i64 12):=gQa;go_region_held3 (fun w'=>w'.cell? ⟨P,15,none⟩=some (.int .i64 12)) (((try dsimp only);(first|(with_reducible exact j)|(with_reducible exact hx)))) (first|(go_at_call 158;refine (bDA _).mono ?_;rintro e wp ⟨rfl,dp⟩;(have pp:=p3.below dp);(have hx:wp.cell? ⟨P,15,none⟩=some (.int .i64 12):=by rw[<-hk];exact pp.cells.2.2.2.2.2.2.2.2.2.2.2.2.2.2.1)));clear j hx;go_wp2_with fail;refine (H _ pp).mono ?_;rintro e w4 ⟨rfl,p5⟩;clear pp;go_wp2
 (try simp only[Exit.inBlock,Exit.then])
 first|refine bodyPost_ret (results_none rfl _ _ _) rfl ?_|refine bodyPost_end (results_none rfl _ _ _) rfl ?_
 refine⟨rfl,?_⟩;exact p5

end Go.Proofs.YtckfdbjjjgfbfaaGreat
