import Derived.Test.YtckfdbjjjgfbfaaGreatRPhr
import Derived.Test.YtckfdbjjjgfbfaaGreatRCells
import Derived.Test.YtckfdbjjjgfbfaaGreatRAluC
import Derived.Deep.RegionWith
import Derived.Test.YtckfdbjjjgfbfaaGreatRAluA
import Derived.Test.YtckfdbjjjgfbfaaGreatRRegStep
set_option linter.unusedVariables false
set_option linter.unusedSimpArgs false
set_option maxRecDepth 100000
set_option maxHeartbeats 800000
namespace Go.Proofs.YtckfdbjjjgfbfaaGreat
open Go.RowKit
theorem rJA (a b:Int) (c:Bool) (w:World) (h0:0<=a) (h1:a<=255) (h2:0<=b) (h3:b<=255) :
  Calls Tryz.prog 202 #[.int .u8 a,.int .u8 b,.bool c] w fun e w'=>e=.returned (.int .u8 (sbT a b c % 256))/\w=w':=by
 obtain⟨j,hci⟩:∃ x,bI (!c) 1=x:=⟨_,rfl⟩;obtain⟨b4,b5⟩:0<=j/\j<=1:=by rw[<-hci];exact bI_bd _ 1 iQ
 have O:=hQ hci;clear hci;have e1:=iFA a h0 h1;have e2:=iFA b h2 h3;have e3:=mEA a h0 h1;have e4:=mEA b h2 h3;have e5:=xHA (a % 16 - b % 16 - j - 6);have HS:=hQ (show sbS a b c=a % 16 - b % 16 - j by unfold sbS;rw[<-O.out];cases c<;>simp[bI]<;>omega);by_cases hl:a % 16 - b % 16 - j < 0
 ·have HL:=hQ (show sbL a b c=((a % 16 - b % 16 - j - 6) % 16 - 16) by unfold sbL;rw[HS.out,if_pos hl]);have HH:=hQ (show sbH a b c=a - a % 16 - (b - b % 16)+((a % 16 - b % 16 - j - 6) % 16 - 16) by unfold sbH;rw[HL.out]);by_cases Q:a - a % 16 - (b - b % 16)+((a % 16 - b % 16 - j - 6) % 16 - 16) < 0
  ·have HT:=hQ (show sbT a b c=a - a % 16 - (b - b % 16)+((a % 16 - b % 16 - j - 6) % 16 - 16) - 96 by unfold sbT;rw[HH.out,if_pos Q]);go_enter Tryz.func202,Tryz.ntmps202;go_wp2_with fail;refine (xCA _ _ _).mono ?_;rintro e w' ⟨rfl,rfl⟩;rw[O.out];go_wp2;go_ret;exact⟨qGA (by rw[HT.out]),rfl⟩
  ·have HT:=hQ (show sbT a b c=a - a % 16 - (b - b % 16)+((a % 16 - b % 16 - j - 6) % 16 - 16) by unfold sbT;rw[HH.out,if_neg Q]);have b2:0<=a - a % 16 - (b - b % 16)+((a % 16 - b % 16 - j - 6) % 16 - 16):=dQ;clear Q;have HM:=hQ (show (a - a % 16 - (b - b % 16)+((a % 16 - b % 16 - j - 6) % 16 - 16)) % 256=a - a % 16 - (b - b % 16)+((a % 16 - b % 16 - j - 6) % 16 - 16) by omega);go_enter Tryz.func202,Tryz.ntmps202;go_wp2_with fail;refine (xCA _ _ _).mono ?_;rintro e w' ⟨rfl,rfl⟩;rw[O.out];go_wp2;go_ret;exact⟨qGA (by rw[HT.out];first|rfl|omega),rfl⟩
 ·have HL:=hQ (show sbL a b c=(a % 16 - b % 16 - j) by unfold sbL;rw[HS.out,if_neg hl]);have HH:=hQ (show sbH a b c=a - a % 16 - (b - b % 16)+(a % 16 - b % 16 - j) by unfold sbH;rw[HL.out]);have b6:0<=a % 16 - b % 16 - j:=dQ;clear hl;by_cases Q:a - a % 16 - (b - b % 16)+(a % 16 - b % 16 - j) < 0
  ·have HT:=hQ (show sbT a b c=a - a % 16 - (b - b % 16)+(a % 16 - b % 16 - j) - 96 by unfold sbT;rw[HH.out,if_pos Q]);go_enter Tryz.func202,Tryz.ntmps202;go_wp2_with fail;refine (xCA _ _ _).mono ?_;rintro e w' ⟨rfl,rfl⟩;rw[O.out];go_wp2;go_ret;exact⟨qGA (by rw[HT.out]),rfl⟩
  ·have HT:=hQ (show sbT a b c=a - a % 16 - (b - b % 16)+(a % 16 - b % 16 - j) by unfold sbT;rw[HH.out,if_neg Q]);have b2:0<=a - a % 16 - (b - b % 16)+(a % 16 - b % 16 - j):=dQ;clear Q;have HM:=hQ (show (a - a % 16 - (b - b % 16)+(a % 16 - b % 16 - j)) % 256=a - a % 16 - (b - b % 16)+(a % 16 - b % 16 - j) by omega);go_enter Tryz.func202,Tryz.ntmps202;go_wp2_with fail;refine (xCA _ _ _).mono ?_;rintro e w' ⟨rfl,rfl⟩;rw[O.out];go_wp2;go_ret;exact⟨qGA (by rw[HT.out];first|rfl|omega),rfl⟩
theorem aPA (a b:Int) (n v i z c:Bool) (w:World) (h0:0<=a) (h1:a<=255) (h2:0<=b) (h3:b<=255) :
  Calls Tryz.prog 193 #[.int .u8 a,.int .u8 b,.agg #[.bool n,.bool v,.bool false,.bool i,.bool z,.bool c]] w fun e w'=>e=.returned (.tuple #[.int .u8 (plR a (255 - b) c),.agg #[.bool (bit7 (plR a (255 - b) c)),.bool (plV a (255 - b) c),.bool false,.bool i,.bool (isZ (plR a (255 - b) c)),.bool (plC a (255 - b) c)]])/\Below w.heap.size w w':=by
 have e0:=iSA b h2 h3;have r:0<=255 - b:=dQ;have E:255 - b<=255:=dQ;go_enter Tryz.func193,Tryz.ntmps193;go_wp2_with fail;refine (nDA _ _ _ _ _ _ _ _ _ h0 h1 r E).mono ?_;rintro e l ⟨rfl,hb⟩;obtain⟨hc,hf⟩:=bcell hb;obtain⟨c0,c1,c2,c3,c4,c5,f0,f1,f2,f3,f4,f5⟩:=box6 hb;have hz:w.heap.size+1 < l.heap.size:=vQ;have hz0:w.heap.size < l.heap.size:=dQ;have hbw:Below w.heap.size w l:=(((Below.refl _ _).alloc (Nat.le_refl _) _).alloc xQ _).trans (hb.mono qQ);go_wp2_with fail;go_region;all_goals
  go_wp2;refine bodyPost_ret (v:=(.tuple #[.int .u8 (plR a (255 - b) c),.agg #[.bool (bit7 (plR a (255 - b) c)),.bool (plV a (255 - b) c),.bool false,.bool i,.bool (isZ (plR a (255 - b) c)),.bool (plC a (255 - b) c)]])) (by simp[results,Tryz.results193,go_sem,hc,hz,hz0]) rfl ⟨rfl,?_⟩;all_goals exact fQ
theorem lUA (a b:Int) (n v i z c:Bool) (w:World) (h0:0<=a) (h1:a<=255) (h2:0<=b) (h3:b<=255) :
  Calls Tryz.prog 193 #[.int .u8 a,.int .u8 b,.agg #[.bool n,.bool v,.bool true,.bool i,.bool z,.bool c]] w fun e w'=>e=.returned (.tuple #[.int .u8 (sbT a b c % 256),.agg #[.bool (bit7 (plR a (255 - b) c)),.bool (plV a (255 - b) c),.bool true,.bool i,.bool (isZ (plR a (255 - b) c)),.bool (plC a (255 - b) c)]])/\Below w.heap.size w w':=by
 have e0:=iSA b h2 h3;have r:0<=255 - b:=dQ;have E:255 - b<=255:=dQ;go_enter Tryz.func193,Tryz.ntmps193;go_wp2_with fail;refine (nDA _ _ _ _ _ _ _ _ _ h0 h1 r E).mono ?_;rintro e l ⟨rfl,hb⟩;obtain⟨hc,hf⟩:=bcell hb;obtain⟨c0,c1,c2,c3,c4,c5,f0,f1,f2,f3,f4,f5⟩:=box6 hb;have hz:w.heap.size+1 < l.heap.size:=vQ;have hz0:w.heap.size < l.heap.size:=dQ;have hbw:Below w.heap.size w l:=(((Below.refl _ _).alloc (Nat.le_refl _) _).alloc xQ _).trans (hb.mono qQ);go_wp2_with fail;go_region_with (go_at_call 202;refine (rJA _ _ _ _ h0 h1 h2 h3).mono ?_;rintro e w' ⟨rfl,rfl⟩);all_goals
  go_wp2;refine bodyPost_ret (v:=(.tuple #[.int .u8 (sbT a b c % 256),.agg #[.bool (bit7 (plR a (255 - b) c)),.bool (plV a (255 - b) c),.bool true,.bool i,.bool (isZ (plR a (255 - b) c)),.bool (plC a (255 - b) c)]])) (by simp[results,Tryz.results193,go_sem,hc,hz,hz0]) rfl ⟨rfl,?_⟩;all_goals exact fQ
theorem kPA (a b:Int) (n v i z c:Bool) (w:World) (h0:0<=a) (h1:a<=255) (h2:0<=b) (h3:b<=255) :
  Calls Tryz.prog 138 #[.int .u8 a,.int .u8 b,.agg #[.bool n,.bool v,.bool false,.bool i,.bool z,.bool c]] w fun e w'=>e=.returned (.tuple #[.int .u8 (plR a (255 - b) c),.agg #[.bool (bit7 (plR a (255 - b) c)),.bool (plV a (255 - b) c),.bool false,.bool i,.bool (isZ (plR a (255 - b) c)),.bool (plC a (255 - b) c)]])/\Below w.heap.size w w':=by
 have r:0<=255 - b:=dQ;have E:255 - b<=255:=dQ;go_enter Tryz.func138,Tryz.ntmps138;go_wp2_with fail;refine (wCA _ _ _ _ _ _ _ _ _ h0 h1 r E).mono ?_;rintro e l ⟨rfl,hb⟩;obtain⟨hc,hf⟩:=bcell hb;obtain⟨c0,c1,c2,c3,c4,c5,f0,f1,f2,f3,f4,f5⟩:=box6 hb;have hz:w.heap.size+1 < l.heap.size:=vQ;have hz0:w.heap.size < l.heap.size:=dQ;have hbw:Below w.heap.size w l:=(((Below.refl _ _).alloc (Nat.le_refl _) _).alloc xQ _).trans (hb.mono qQ);go_wp2;go_region;all_goals
  go_wp2;refine bodyPost_ret (v:=(.tuple #[.int .u8 (plR a (255 - b) c),.agg #[.bool (bit7 (plR a (255 - b) c)),.bool (plV a (255 - b) c),.bool false,.bool i,.bool (isZ (plR a (255 - b) c)),.bool (plC a (255 - b) c)]])) (by simp[results,Tryz.results138,go_sem,hc,hz,hz0]) rfl ⟨rfl,?_⟩;all_goals exact fQ
theorem fVA (a b:Int) (n v i z c:Bool) (w:World) (h0:0<=a) (h1:a<=255) (h2:0<=b) (h3:b<=255) :
  Calls Tryz.prog 138 #[.int .u8 a,.int .u8 b,.agg #[.bool n,.bool v,.bool true,.bool i,.bool z,.bool c]] w fun e w'=>e=.returned (.tuple #[.int .u8 (sbT a b c % 256),.agg #[.bool (bit7 (plR a (255 - b) c)),.bool (plV a (255 - b) c),.bool true,.bool i,.bool (isZ (plR a (255 - b) c)),.bool (plC a (255 - b) c)]])/\Below w.heap.size w w':=by
 have r:0<=255 - b:=dQ;have E:255 - b<=255:=dQ;obtain⟨j,hci⟩:∃ x,bI c 1=x:=⟨_,rfl⟩;obtain⟨b4,b5⟩:0<=j/\j<=1:=sQd;have O:=hQ hci;clear hci;have e1:=iFA a h0 h1;have e2:=iFA b h2 h3;have e3:=mEA a h0 h1;have e4:=mEA b h2 h3;have e5:=xHA (a % 16 - b % 16 - 1+j - 6);have HS:=hQ (show sbS a b c=a % 16 - b % 16 - 1+j by unfold sbS;rw[<-O.out]);by_cases hl:a % 16 - b % 16 - 1+j < 0
 ·have HL:=hQ (show sbL a b c=((a % 16 - b % 16 - 1+j - 6) % 16 - 16) by unfold sbL;rw[HS.out,if_pos hl]);have HH:=hQ (show sbH a b c=a - a % 16 - (b - b % 16)+((a % 16 - b % 16 - 1+j - 6) % 16 - 16) by unfold sbH;rw[HL.out]);by_cases Q:a - a % 16 - (b - b % 16)+((a % 16 - b % 16 - 1+j - 6) % 16 - 16) < 0
  ·have HT:=hQ (show sbT a b c=a - a % 16 - (b - b % 16)+((a % 16 - b % 16 - 1+j - 6) % 16 - 16) - 96 by unfold sbT;rw[HH.out,if_pos Q]);have e6:=aDA (a - a % 16 - (b - b % 16)+((a % 16 - b % 16 - 1+j - 6) % 16 - 16) - 96);go_enter Tryz.func138,Tryz.ntmps138;go_wp2_with fail;refine (wCA _ _ _ _ _ _ _ _ _ h0 h1 r E).mono ?_;rintro e l ⟨rfl,hb⟩;obtain⟨hc,hf⟩:=bcell hb;obtain⟨c0,c1,c2,c3,c4,c5,f0,f1,f2,f3,f4,f5⟩:=box6 hb;have hz:w.heap.size+1 < l.heap.size:=vQ;have hz0:w.heap.size < l.heap.size:=dQ;have hbw:Below w.heap.size w l:=(((Below.refl _ _).alloc (Nat.le_refl _) _).alloc xQ _).trans (hb.mono qQ);go_wp2_with fail;refine (bDA _ _ _).mono ?_;rintro e w' ⟨rfl,rfl⟩;rw[O.out];go_wp2;go_region;all_goals
    go_wp2;refine bodyPost_ret (v:=(.tuple #[.int .u8 (sbT a b c % 256),.agg #[.bool (bit7 (plR a (255 - b) c)),.bool (plV a (255 - b) c),.bool true,.bool i,.bool (isZ (plR a (255 - b) c)),.bool (plC a (255 - b) c)]])) (by simp[results,Tryz.results138,go_sem,hc,hz,hz0,HT.out]) rfl ⟨rfl,?_⟩;all_goals exact fQ
  ·have HT:=hQ (show sbT a b c=a - a % 16 - (b - b % 16)+((a % 16 - b % 16 - 1+j - 6) % 16 - 16) by unfold sbT;rw[HH.out,if_neg Q]);have b2:0<=a - a % 16 - (b - b % 16)+((a % 16 - b % 16 - 1+j - 6) % 16 - 16):=dQ;clear Q;have HM:=hQ (show (a - a % 16 - (b - b % 16)+((a % 16 - b % 16 - 1+j - 6) % 16 - 16)) % 256=a - a % 16 - (b - b % 16)+((a % 16 - b % 16 - 1+j - 6) % 16 - 16) by omega);have e6:=aDA (a - a % 16 - (b - b % 16)+((a % 16 - b % 16 - 1+j - 6) % 16 - 16));go_enter Tryz.func138,Tryz.ntmps138;go_wp2_with fail;refine (wCA _ _ _ _ _ _ _ _ _ h0 h1 r E).mono ?_;rintro e l ⟨rfl,hb⟩;obtain⟨hc,hf⟩:=bcell hb;obtain⟨c0,c1,c2,c3,c4,c5,f0,f1,f2,f3,f4,f5⟩:=box6 hb;have hz:w.heap.size+1 < l.heap.size:=vQ;have hz0:w.heap.size < l.heap.size:=dQ;have hbw:Below w.heap.size w l:=(((Below.refl _ _).alloc (Nat.le_refl _) _).alloc xQ _).trans (hb.mono qQ);go_wp2_with fail;refine (bDA _ _ _).mono ?_;rintro e w' ⟨rfl,rfl⟩;rw[O.out];go_wp2;go_region;all_goals
    go_wp2;refine bodyPost_ret (v:=(.tuple #[.int .u8 (sbT a b c % 256),.agg #[.bool (bit7 (plR a (255 - b) c)),.bool (plV a (255 - b) c),.bool true,.bool i,.bool (isZ (plR a (255 - b) c)),.bool (plC a (255 - b) c)]])) (by simp[results,Tryz.results138,go_sem,hc,hz,hz0,HT.out,HM.out]) rfl ⟨rfl,?_⟩;all_goals exact fQ
 ·have HL:=hQ (show sbL a b c=(a % 16 - b % 16 - 1+j) by unfold sbL;rw[HS.out,if_neg hl]);have HH:=hQ (show sbH a b c=a - a % 16 - (b - b % 16)+(a % 16 - b % 16 - 1+j) by unfold sbH;rw[HL.out]);have b6:0<=a % 16 - b % 16 - 1+j:=dQ;clear hl;by_cases Q:a - a % 16 - (b - b % 16)+(a % 16 - b % 16 - 1+j) < 0
  ·have HT:=hQ (show sbT a b c=a - a % 16 - (b - b % 16)+(a % 16 - b % 16 - 1+j) - 96 by unfold sbT;rw[HH.out,if_pos Q]);have e6:=aDA (a - a % 16 - (b - b % 16)+(a % 16 - b % 16 - 1+j) - 96);go_enter Tryz.func138,Tryz.ntmps138;go_wp2_with fail;refine (wCA _ _ _ _ _ _ _ _ _ h0 h1 r E).mono ?_;rintro e l ⟨rfl,hb⟩;obtain⟨hc,hf⟩:=bcell hb;obtain⟨c0,c1,c2,c3,c4,c5,f0,f1,f2,f3,f4,f5⟩:=box6 hb;have hz:w.heap.size+1 < l.heap.size:=vQ;have hz0:w.heap.size < l.heap.size:=dQ;have hbw:Below w.heap.size w l:=(((Below.refl _ _).alloc (Nat.le_refl _) _).alloc xQ _).trans (hb.mono qQ);go_wp2_with fail;refine (bDA _ _ _).mono ?_;rintro e w' ⟨rfl,rfl⟩;rw[O.out];go_wp2;go_region;all_goals
    go_wp2;refine bodyPost_ret (v:=(.tuple #[.int .u8 (sbT a b c % 256),.agg #[.bool (bit7 (plR a (255 - b) c)),.bool (plV a (255 - b) c),.bool true,.bool i,.bool (isZ (plR a (255 - b) c)),.bool (plC a (255 - b) c)]])) (by simp[results,Tryz.results138,go_sem,hc,hz,hz0,HT.out]) rfl ⟨rfl,?_⟩;all_goals exact fQ
  ·have HT:=hQ (show sbT a b c=a - a % 16 - (b - b % 16)+(a % 16 - b % 16 - 1+j) by unfold sbT;rw[HH.out,if_neg Q]);have b2:0<=a - a % 16 - (b - b % 16)+(a % 16 - b % 16 - 1+j):=dQ;clear Q;have HM:=hQ (show (a - a % 16 - (b - b % 16)+(a % 16 - b % 16 - 1+j)) % 256=a - a % 16 - (b - b % 16)+(a % 16 - b % 16 - 1+j) by omega);have e6:=aDA (a - a % 16 - (b - b % 16)+(a % 16 - b % 16 - 1+j));go_enter Tryz.func138,Tryz.ntmps138;go_wp2_with fail;refine (wCA _ _ _ _ _ _ _ _ _ h0 h1 r E).mono ?_;rintro e l ⟨rfl,hb⟩;obtain⟨hc,hf⟩:=bcell hb;obtain⟨c0,c1,c2,c3,c4,c5,f0,f1,f2,f3,f4,f5⟩:=box6 hb;have hz:w.heap.size+1 < l.heap.size:=vQ;have hz0:w.heap.size < l.heap.size:=dQ;have hbw:Below w.heap.size w l:=(((Below.refl _ _).alloc (Nat.le_refl _) _).alloc xQ _).trans (hb.mono qQ);go_wp2_with fail;refine (bDA _ _ _).mono ?_;rintro e w' ⟨rfl,rfl⟩;rw[O.out];go_wp2;go_region;all_goals
    go_wp2;refine bodyPost_ret (v:=(.tuple #[.int .u8 (sbT a b c % 256),.agg #[.bool (bit7 (plR a (255 - b) c)),.bool (plV a (255 - b) c),.bool true,.bool i,.bool (isZ (plR a (255 - b) c)),.bool (plC a (255 - b) c)]])) (by simp[results,Tryz.results138,go_sem,hc,hz,hz0,HT.out,HM.out]) rfl ⟨rfl,?_⟩;all_goals exact fQ
theorem uVA (a b:Int) (n v d i z c:Bool) (w:World) (h0:0<=a) (h1:a<=255) (h2:0<=b) (h3:b<=255) :
  Calls Tryz.prog 193 #[.int .u8 a,.int .u8 b,.agg #[.bool n,.bool v,.bool d,.bool i,.bool z,.bool c]] w fun e w'=>e=.returned (.tuple #[.int .u8 (sbR a b d c),.agg #[.bool (bit7 (plR a (255 - b) c)),.bool (plV a (255 - b) c),.bool d,.bool i,.bool (isZ (plR a (255 - b) c)),.bool (plC a (255 - b) c)]])/\Below w.heap.size w w':=by
 cases d
 ·exact aPA a b n v i z c w h0 h1 h2 h3
 ·exact lUA a b n v i z c w h0 h1 h2 h3
theorem gTA (a b:Int) (n v d i z c:Bool) (w:World) (h0:0<=a) (h1:a<=255) (h2:0<=b) (h3:b<=255) :
  Calls Tryz.prog 138 #[.int .u8 a,.int .u8 b,.agg #[.bool n,.bool v,.bool d,.bool i,.bool z,.bool c]] w fun e w'=>e=.returned (.tuple #[.int .u8 (sbR a b d c),.agg #[.bool (bit7 (plR a (255 - b) c)),.bool (plV a (255 - b) c),.bool d,.bool i,.bool (isZ (plR a (255 - b) c)),.bool (plC a (255 - b) c)]])/\Below w.heap.size w w':=by
 cases d
 ·exact kPA a b n v i z c w h0 h1 h2 h3
 ·exact fVA a b n v i z c w h0 h1 h2 h3
abbrev fAA:Array Value:=(zQ []).toArray
theorem vAA {w l:World} {cs zs:Array Value} {t u:TypeId} (hb:Below ((w.alloc (.cells cs t)).alloc (.cells zs u)).heap.size ((w.alloc (.cells cs t)).alloc (.cells zs u)) l) :
  BoxN l w.heap.size t cs/\BoxN l (w.heap.size+1) u zs/\Below w.heap.size w l:=by
 refine⟨((BoxN.new w t cs).below ((Below.refl _ _).alloc (Nat.le_refl _) _)).below hb,?_,(((Below.refl _ _).alloc (Nat.le_refl _) _).alloc xQ _).trans (hb.mono qQ)⟩;have:=BoxN.new (w.alloc (.cells cs t)) u zs;rw[World.size_alloc] at this;exact this.below hb
theorem tIA {w l:World} {cs:Array Value} {t:TypeId} (hb:Below (w.alloc (.cells cs t)).heap.size (w.alloc (.cells cs t)) l) :
  BoxN l w.heap.size t cs/\Below w.heap.size w l:=
 ⟨(BoxN.new w t cs).below hb,((Below.refl _ _).alloc (Nat.le_refl _) _).trans (hb.mono xQ)⟩
theorem eleven {W:World} {B:Nat} {t:TypeId} {a0 a1 a2 a3 a4 a5 a6 a7 a8 a9 b3:Value} (h:BoxN W B t #[a0,a1,a2,a3,a4,a5,a6,a7,a8,a9,b3]) :
  W.cell? ⟨B,0,none⟩=some a0/\W.cell? ⟨B,1,none⟩=some a1/\W.cell? ⟨B,2,none⟩=some a2/\W.cell? ⟨B,3,none⟩=some a3/\W.cell? ⟨B,4,none⟩=some a4/\W.cell? ⟨B,5,none⟩=some a5/\W.cell? ⟨B,6,none⟩=some a6/\W.cell? ⟨B,7,none⟩=some a7/\W.cell? ⟨B,8,none⟩=some a8/\W.cell? ⟨B,9,none⟩=some a9/\W.cell? ⟨B,10,none⟩=some b3/\∀ k,W.frozen? ⟨B,k,none⟩=false:=
 ⟨h.cell 0 _ rfl,h.cell 1 _ rfl,h.cell 2 _ rfl,h.cell 3 _ rfl,h.cell 4 _ rfl,h.cell 5 _ rfl,h.cell 6 _ rfl,h.cell 7 _ rfl,h.cell 8 _ rfl,h.cell 9 _ rfl,h.cell 10 _ rfl,h.frozen⟩
theorem six {W:World} {B:Nat} {t:TypeId} {a0 a1 a2 a3 a4 a5:Value} (h:BoxN W B t #[a0,a1,a2,a3,a4,a5]) :
  W.cell? ⟨B,0,none⟩=some a0/\W.cell? ⟨B,1,none⟩=some a1/\W.cell? ⟨B,2,none⟩=some a2/\W.cell? ⟨B,3,none⟩=some a3/\W.cell? ⟨B,4,none⟩=some a4/\W.cell? ⟨B,5,none⟩=some a5/\∀ k,W.frozen? ⟨B,k,none⟩=false:=
 ⟨h.cell 0 _ rfl,h.cell 1 _ rfl,h.cell 2 _ rfl,h.cell 3 _ rfl,h.cell 4 _ rfl,h.cell 5 _ rfl,h.frozen⟩
theorem hDA {x:Int} (h:0<=x):∃ n:Nat,x=(n:Int):=⟨x.toNat,(Int.toNat_of_nonneg h).symm⟩
theorem use_LDA (c:CpuN) (hc:c.ok) (m:Nat) (J:m < 256) (w:World) :
  Calls Tryz.prog 113 #[cpuV c,.string ⟨#[76,68,65]⟩,.int .u8 m] w fun e w'=>e=.returned (cpuV (useL c [76,68,65] m))/\Below w.heap.size w w':=by
 obtain⟨hA,U,R,T,hP⟩:=hc;go_enter Tryz.func113,Tryz.ntmps113;go_wp2_with fail;refine (cBA _ _ _ _ _ _ _ _ dQ dQ).mono ?_;rintro e l ⟨rfl,hb⟩;obtain⟨r,E,H⟩:=vAA hb;obtain⟨g0,g1,g2,g3,g4,g5,g6,g7,g8,g9,g10,f0⟩:=eleven r;obtain⟨h0,h1,h2,h3,h4,h5,h6,h7,h8,h9,h10,f1⟩:=eleven E;have K:=hQ H;clear r E H hb;go_wp2;refine bodyPost_ret (v:=cpuV (useL c [76,68,65] m)) aQa rfl ⟨rfl,?_⟩;have hW:=K.out;all_goals exact aQ
theorem use_LDX (c:CpuN) (hc:c.ok) (m:Nat) (J:m < 256) (w:World) :
  Calls Tryz.prog 113 #[cpuV c,.string ⟨#[76,68,88]⟩,.int .u8 m] w fun e w'=>e=.returned (cpuV (useL c [76,68,88] m))/\Below w.heap.size w w':=by
 obtain⟨hA,U,R,T,hP⟩:=hc;go_enter Tryz.func113,Tryz.ntmps113;go_wp2_with fail;refine (cBA _ _ _ _ _ _ _ _ dQ dQ).mono ?_;rintro e l ⟨rfl,hb⟩;obtain⟨r,E,H⟩:=vAA hb;obtain⟨g0,g1,g2,g3,g4,g5,g6,g7,g8,g9,g10,f0⟩:=eleven r;obtain⟨h0,h1,h2,h3,h4,h5,h6,h7,h8,h9,h10,f1⟩:=eleven E;have K:=hQ H;clear r E H hb;go_wp2;refine bodyPost_ret (v:=cpuV (useL c [76,68,88] m)) aQa rfl ⟨rfl,?_⟩;have hW:=K.out;all_goals exact aQ
theorem use_LDY (c:CpuN) (hc:c.ok) (m:Nat) (J:m < 256) (w:World) :
  Calls Tryz.prog 113 #[cpuV c,.string ⟨#[76,68,89]⟩,.int .u8 m] w fun e w'=>e=.returned (cpuV (useL c [76,68,89] m))/\Below w.heap.size w w':=by
 obtain⟨hA,U,R,T,hP⟩:=hc;go_enter Tryz.func113,Tryz.ntmps113;go_wp2_with fail;refine (cBA _ _ _ _ _ _ _ _ dQ dQ).mono ?_;rintro e l ⟨rfl,hb⟩;obtain⟨r,E,H⟩:=vAA hb;obtain⟨g0,g1,g2,g3,g4,g5,g6,g7,g8,g9,g10,f0⟩:=eleven r;obtain⟨h0,h1,h2,h3,h4,h5,h6,h7,h8,h9,h10,f1⟩:=eleven E;have K:=hQ H;clear r E H hb;go_wp2;refine bodyPost_ret (v:=cpuV (useL c [76,68,89] m)) aQa rfl ⟨rfl,?_⟩;have hW:=K.out;all_goals exact aQ
theorem use_ORA (c:CpuN) (hc:c.ok) (m:Nat) (J:m < 256) (w:World) :
  Calls Tryz.prog 113 #[cpuV c,.string ⟨#[79,82,65]⟩,.int .u8 m] w fun e w'=>e=.returned (cpuV (useL c [79,82,65] m))/\Below w.heap.size w w':=by
 obtain⟨hA,U,R,T,hP⟩:=hc;obtain⟨x,hx⟩:=hDA (rBA .or (c.A:Int) (m:Int)).1;have b1:x < 256:=by have:=(rBA .or (c.A:Int) (m:Int)).2;omega
 go_enter Tryz.func113,Tryz.ntmps113;go_wp2_with fail;refine (cBA _ _ _ _ _ _ _ _ dQ dQ).mono ?_;rintro e l ⟨rfl,hb⟩;obtain⟨r,E,H⟩:=vAA hb;obtain⟨g0,g1,g2,g3,g4,g5,g6,g7,g8,g9,g10,f0⟩:=eleven r;obtain⟨h0,h1,h2,h3,h4,h5,h6,h7,h8,h9,h10,f1⟩:=eleven E;have K:=hQ H;clear r E H hb;go_wp2;refine bodyPost_ret (v:=cpuV (useL c [79,82,65] m)) kQa rfl ⟨rfl,?_⟩;have hW:=K.out;all_goals exact aQ
theorem use_AND (c:CpuN) (hc:c.ok) (m:Nat) (J:m < 256) (w:World) :
  Calls Tryz.prog 113 #[cpuV c,.string ⟨#[65,78,68]⟩,.int .u8 m] w fun e w'=>e=.returned (cpuV (useL c [65,78,68] m))/\Below w.heap.size w w':=by
 obtain⟨hA,U,R,T,hP⟩:=hc;obtain⟨x,hx⟩:=hDA (rBA .and (c.A:Int) (m:Int)).1;have b1:x < 256:=by have:=(rBA .and (c.A:Int) (m:Int)).2;omega
 go_enter Tryz.func113,Tryz.ntmps113;go_wp2_with fail;refine (cBA _ _ _ _ _ _ _ _ dQ dQ).mono ?_;rintro e l ⟨rfl,hb⟩;obtain⟨r,E,H⟩:=vAA hb;obtain⟨g0,g1,g2,g3,g4,g5,g6,g7,g8,g9,g10,f0⟩:=eleven r;obtain⟨h0,h1,h2,h3,h4,h5,h6,h7,h8,h9,h10,f1⟩:=eleven E;have K:=hQ H;clear r E H hb;go_wp2;refine bodyPost_ret (v:=cpuV (useL c [65,78,68] m)) kQa rfl ⟨rfl,?_⟩;have hW:=K.out;all_goals exact aQ
theorem use_EOR (c:CpuN) (hc:c.ok) (m:Nat) (J:m < 256) (w:World) :
  Calls Tryz.prog 113 #[cpuV c,.string ⟨#[69,79,82]⟩,.int .u8 m] w fun e w'=>e=.returned (cpuV (useL c [69,79,82] m))/\Below w.heap.size w w':=by
 obtain⟨hA,U,R,T,hP⟩:=hc;obtain⟨x,hx⟩:=hDA (rBA .xor (c.A:Int) (m:Int)).1;have b1:x < 256:=by have:=(rBA .xor (c.A:Int) (m:Int)).2;omega
 go_enter Tryz.func113,Tryz.ntmps113;go_wp2_with fail;refine (cBA _ _ _ _ _ _ _ _ dQ dQ).mono ?_;rintro e l ⟨rfl,hb⟩;obtain⟨r,E,H⟩:=vAA hb;obtain⟨g0,g1,g2,g3,g4,g5,g6,g7,g8,g9,g10,f0⟩:=eleven r;obtain⟨h0,h1,h2,h3,h4,h5,h6,h7,h8,h9,h10,f1⟩:=eleven E;have K:=hQ H;clear r E H hb;go_wp2;refine bodyPost_ret (v:=cpuV (useL c [69,79,82] m)) kQa rfl ⟨rfl,?_⟩;have hW:=K.out;all_goals exact aQ
theorem use_ADC (c:CpuN) (hc:c.ok) (m:Nat) (J:m < 256) (w:World) :
  Calls Tryz.prog 113 #[cpuV c,.string ⟨#[65,68,67]⟩,.int .u8 m] w fun e w'=>e=.returned (cpuV (useL c [65,68,67] m))/\Below w.heap.size w w':=by
 obtain⟨hA,U,R,T,hP⟩:=hc;obtain⟨x,hx⟩:=hDA (iKA (c.A:Int) (m:Int) c.D c.C).1;have b1:x < 256:=by have:=(iKA (c.A:Int) (m:Int) c.D c.C).2;omega
 go_enter Tryz.func113,Tryz.ntmps113;go_wp2_with fail;refine (mVA _ _ _ _ _ _ _ _ _ dQ dQ dQ dQ).mono ?_;rintro e l ⟨rfl,hb⟩;obtain⟨r,E,H⟩:=vAA hb;obtain⟨g0,g1,g2,g3,g4,g5,g6,g7,g8,g9,g10,f0⟩:=eleven r;obtain⟨h0,h1,h2,h3,h4,h5,h6,h7,h8,h9,h10,f1⟩:=eleven E;have K:=hQ H;clear r E H hb;go_wp2;refine bodyPost_ret (v:=cpuV (useL c [65,68,67] m)) kQa rfl ⟨rfl,?_⟩;have hW:=K.out;all_goals exact aQ
theorem use_SBC (c:CpuN) (hc:c.ok) (m:Nat) (J:m < 256) (w:World) :
  Calls Tryz.prog 113 #[cpuV c,.string ⟨#[83,66,67]⟩,.int .u8 m] w fun e w'=>e=.returned (cpuV (useL c [83,66,67] m))/\Below w.heap.size w w':=by
 obtain⟨hA,U,R,T,hP⟩:=hc;obtain⟨x,hx⟩:=hDA (oKA (c.A:Int) (m:Int) c.D c.C).1;have b1:x < 256:=by have:=(oKA (c.A:Int) (m:Int) c.D c.C).2;omega
 go_enter Tryz.func113,Tryz.ntmps113;go_wp2_with fail;refine (gTA _ _ _ _ _ _ _ _ _ dQ dQ dQ dQ).mono ?_;rintro e l ⟨rfl,hb⟩;obtain⟨r,E,H⟩:=vAA hb;obtain⟨g0,g1,g2,g3,g4,g5,g6,g7,g8,g9,g10,f0⟩:=eleven r;obtain⟨h0,h1,h2,h3,h4,h5,h6,h7,h8,h9,h10,f1⟩:=eleven E;have K:=hQ H;clear r E H hb;go_wp2;refine bodyPost_ret (v:=cpuV (useL c [83,66,67] m)) kQa rfl ⟨rfl,?_⟩;have hW:=K.out;all_goals exact aQ
theorem use_CMP (c:CpuN) (hc:c.ok) (m:Nat) (J:m < 256) (w:World) :
  Calls Tryz.prog 113 #[cpuV c,.string ⟨#[67,77,80]⟩,.int .u8 m] w fun e w'=>e=.returned (cpuV (useL c [67,77,80] m))/\Below w.heap.size w w':=by
 obtain⟨hA,U,R,T,hP⟩:=hc;go_enter Tryz.func113,Tryz.ntmps113;go_wp2_with fail;refine (dIA _ _ _ _ _ _ _ _ dQ dQ dQ dQ _).mono ?_;rintro e l ⟨rfl,hb⟩;obtain⟨r,E,H⟩:=vAA hb;obtain⟨g0,g1,g2,g3,g4,g5,g6,g7,g8,g9,g10,f0⟩:=eleven r;obtain⟨h0,h1,h2,h3,h4,h5,h6,h7,h8,h9,h10,f1⟩:=eleven E;have K:=hQ H;clear r E H hb;go_wp2;refine bodyPost_ret (v:=cpuV (useL c [67,77,80] m)) aQa rfl ⟨rfl,?_⟩;have hW:=K.out;all_goals exact aQ
theorem use_CPX (c:CpuN) (hc:c.ok) (m:Nat) (J:m < 256) (w:World) :
  Calls Tryz.prog 113 #[cpuV c,.string ⟨#[67,80,88]⟩,.int .u8 m] w fun e w'=>e=.returned (cpuV (useL c [67,80,88] m))/\Below w.heap.size w w':=by
 obtain⟨hA,U,R,T,hP⟩:=hc;go_enter Tryz.func113,Tryz.ntmps113;go_wp2_with fail;refine (dIA _ _ _ _ _ _ _ _ dQ dQ dQ dQ _).mono ?_;rintro e l ⟨rfl,hb⟩;obtain⟨r,E,H⟩:=vAA hb;obtain⟨g0,g1,g2,g3,g4,g5,g6,g7,g8,g9,g10,f0⟩:=eleven r;obtain⟨h0,h1,h2,h3,h4,h5,h6,h7,h8,h9,h10,f1⟩:=eleven E;have K:=hQ H;clear r E H hb;go_wp2;refine bodyPost_ret (v:=cpuV (useL c [67,80,88] m)) aQa rfl ⟨rfl,?_⟩;have hW:=K.out;all_goals exact aQ
theorem use_CPY (c:CpuN) (hc:c.ok) (m:Nat) (J:m < 256) (w:World) :
  Calls Tryz.prog 113 #[cpuV c,.string ⟨#[67,80,89]⟩,.int .u8 m] w fun e w'=>e=.returned (cpuV (useL c [67,80,89] m))/\Below w.heap.size w w':=by
 obtain⟨hA,U,R,T,hP⟩:=hc;go_enter Tryz.func113,Tryz.ntmps113;go_wp2_with fail;refine (dIA _ _ _ _ _ _ _ _ dQ dQ dQ dQ _).mono ?_;rintro e l ⟨rfl,hb⟩;obtain⟨r,E,H⟩:=vAA hb;obtain⟨g0,g1,g2,g3,g4,g5,g6,g7,g8,g9,g10,f0⟩:=eleven r;obtain⟨h0,h1,h2,h3,h4,h5,h6,h7,h8,h9,h10,f1⟩:=eleven E;have K:=hQ H;clear r E H hb;go_wp2;refine bodyPost_ret (v:=cpuV (useL c [67,80,89] m)) aQa rfl ⟨rfl,?_⟩;have hW:=K.out;all_goals exact aQ
theorem use_BIT (c:CpuN) (hc:c.ok) (m:Nat) (J:m < 256) (w:World) :
  Calls Tryz.prog 113 #[cpuV c,.string ⟨#[66,73,84]⟩,.int .u8 m] w fun e w'=>e=.returned (cpuV (useL c [66,73,84] m))/\Below w.heap.size w w':=by
 obtain⟨hA,U,R,T,hP⟩:=hc;go_enter Tryz.func113,Tryz.ntmps113;go_wp2_with fail;refine (dMA _ _ _ _ _ _ _ _ _).mono ?_;rintro e l ⟨rfl,hb⟩;obtain⟨r,E,H⟩:=vAA hb;obtain⟨g0,g1,g2,g3,g4,g5,g6,g7,g8,g9,g10,f0⟩:=eleven r;obtain⟨h0,h1,h2,h3,h4,h5,h6,h7,h8,h9,h10,f1⟩:=eleven E;have K:=hQ H;clear r E H hb;go_wp2;refine bodyPost_ret (v:=cpuV (useL c [66,73,84] m)) aQa rfl ⟨rfl,?_⟩;have hW:=K.out;all_goals exact aQ
theorem use_any (i:Nat) (hi:i ∈ [1,2,3,4,6,7,8,14,24,25,26,31]) (c:CpuN) (hc:c.ok) (m:Nat) (J:m < 256) (w:World) :
  Calls Tryz.prog 113 #[cpuV c,.string (opTx i),.int .u8 m] w fun e w'=>e=.returned (cpuV (useL c (opTx i).toList m))/\Below w.heap.size w w':=by
 simp only[List.mem_cons,List.not_mem_nil,or_false] at hi;rcases hi with rfl|rfl|rfl|rfl|rfl|rfl|rfl|rfl|rfl|rfl|rfl|rfl
 ·rw[show (opTx 1).toList=[79,82,65] by rw[ByteArray.toList_eq];rfl];exact use_ORA c hc m J w
 ·rw[show (opTx 2).toList=[65,78,68] by rw[ByteArray.toList_eq];rfl];exact use_AND c hc m J w
 ·rw[show (opTx 3).toList=[69,79,82] by rw[ByteArray.toList_eq];rfl];exact use_EOR c hc m J w
 ·rw[show (opTx 4).toList=[65,68,67] by rw[ByteArray.toList_eq];rfl];exact use_ADC c hc m J w
 ·rw[show (opTx 6).toList=[76,68,65] by rw[ByteArray.toList_eq];rfl];exact use_LDA c hc m J w
 ·rw[show (opTx 7).toList=[67,77,80] by rw[ByteArray.toList_eq];rfl];exact use_CMP c hc m J w
 ·rw[show (opTx 8).toList=[83,66,67] by rw[ByteArray.toList_eq];rfl];exact use_SBC c hc m J w
 ·rw[show (opTx 14).toList=[76,68,88] by rw[ByteArray.toList_eq];rfl];exact use_LDX c hc m J w
 ·rw[show (opTx 24).toList=[76,68,89] by rw[ByteArray.toList_eq];rfl];exact use_LDY c hc m J w
 ·rw[show (opTx 25).toList=[67,80,89] by rw[ByteArray.toList_eq];rfl];exact use_CPY c hc m J w
 ·rw[show (opTx 26).toList=[67,80,88] by rw[ByteArray.toList_eq];rfl];exact use_CPX c hc m J w
 ·rw[show (opTx 31).toList=[66,73,84] by rw[ByteArray.toList_eq];rfl];exact use_BIT c hc m J w

end Go.Proofs.YtckfdbjjjgfbfaaGreat
