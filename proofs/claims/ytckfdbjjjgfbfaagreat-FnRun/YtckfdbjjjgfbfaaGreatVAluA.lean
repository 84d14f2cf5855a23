import Derived.Laws.RangeAny
import Derived.Deep.DeepMust
import Derived.Laws.Concat
import Derived.Laws.BytesArg
import Derived.Test.YtckfdbjjjgfbfaaGreatVRegStep
import Derived.Laws.BitsAllLaws
import Derived.Laws.BitsLemmas
import Derived.Laws.Pointers
import Derived.ChangeAlike
import Derived.RangeFuncRecord
set_option linter.unusedVariables false
set_option linter.unusedSimpArgs false
namespace Go.Proofs.YtckfdbjjjgfbfaaGreat
open Go.RowKit
def dig (c:Int):Int:=if 48<=c/\c<=57 then c - 48 else if 65<=c/\c<=70 then c - 55 else -1
def rd (base:Int):List UInt8->Int->Int
 | [],n=>n
 | c :: r,n=>if dig (c.toNat:Int) < 0\/base<=dig (c.toNat:Int) then -1 else rd base r (n*base+dig (c.toNat:Int))
theorem xOA (x a b:Int) (w:World) :
  Calls Tryz.prog 40 #[.int .i64 x,.int .i64 a,.int .i64 b] w fun e w'=>e=.returned (.bool (decide (a<=x) && decide (x<=b)))/\w=w':=by
 go_enter Tryz.func40,Tryz.ntmps40;go_wp2;all_goals(go_ret;refine⟨?_,rfl⟩;first|(simp[*];done)|(simp[*];omega))
structure CpuN where
 A:Nat
 X:Nat
 Y:Nat
 S:Nat
 PC:Nat
 N:Bool
 V:Bool
 D:Bool
 I:Bool
 Z:Bool
 C:Bool
def CpuN.ok (c:CpuN):Prop:=c.A < 256/\c.X < 256/\c.Y < 256/\c.S < 256/\c.PC < 65536
def cpu0:CpuN:=⟨0,0,0,0,0,false,false,false,false,false,false⟩
theorem kTA:cpu0.ok:=by unfold CpuN.ok cpu0;simp
abbrev dAA (c:CpuN):Array Value:=#[.int .u8 (c.A:Int),.int .u8 (c.X:Int),.int .u8 (c.Y:Int),.int .u8 (c.S:Int),.int .u16 (c.PC:Int),.bool c.N,.bool c.V,.bool c.D,.bool c.I,.bool c.Z,.bool c.C]
abbrev cpuV (c:CpuN):Value:=.agg (dAA c)
def opTx:Nat->ByteArray
 | 1=>⟨#[79,82,65]⟩
 | 2=>⟨#[65,78,68]⟩
 | 3=>⟨#[69,79,82]⟩
 | 4=>⟨#[65,68,67]⟩
 | 5=>⟨#[83,84,65]⟩
 | 6=>⟨#[76,68,65]⟩
 | 7=>⟨#[67,77,80]⟩
 | 8=>⟨#[83,66,67]⟩
 | 9=>⟨#[65,83,76]⟩
 | 10=>⟨#[82,79,76]⟩
 | 11=>⟨#[76,83,82]⟩
 | 12=>⟨#[82,79,82]⟩
 | 13=>⟨#[83,84,88]⟩
 | 14=>⟨#[76,68,88]⟩
 | 15=>⟨#[68,69,67]⟩
 | 16=>⟨#[73,78,67]⟩
 | 17=>⟨#[84,88,65]⟩
 | 18=>⟨#[84,65,88]⟩
 | 19=>⟨#[68,69,88]⟩
 | 20=>⟨#[78,79,80]⟩
 | 21=>⟨#[84,88,83]⟩
 | 22=>⟨#[84,83,88]⟩
 | 23=>⟨#[83,84,89]⟩
 | 24=>⟨#[76,68,89]⟩
 | 25=>⟨#[67,80,89]⟩
 | 26=>⟨#[67,80,88]⟩
 | 27=>⟨#[66,82,75]⟩
 | 28=>⟨#[74,83,82]⟩
 | 29=>⟨#[82,84,73]⟩
 | 30=>⟨#[82,84,83]⟩
 | 31=>⟨#[66,73,84]⟩
 | 32=>⟨#[74,77,80]⟩
 | 33=>⟨#[80,72,80]⟩
 | 34=>⟨#[80,76,80]⟩
 | 35=>⟨#[80,72,65]⟩
 | 36=>⟨#[80,76,65]⟩
 | 37=>⟨#[68,69,89]⟩
 | 38=>⟨#[84,65,89]⟩
 | 39=>⟨#[73,78,89]⟩
 | 40=>⟨#[73,78,88]⟩
 | 41=>⟨#[66,80,76]⟩
 | 42=>⟨#[66,77,73]⟩
 | 43=>⟨#[66,86,67]⟩
 | 44=>⟨#[66,86,83]⟩
 | 45=>⟨#[66,67,67]⟩
 | 46=>⟨#[66,67,83]⟩
 | 47=>⟨#[66,78,69]⟩
 | 48=>⟨#[66,69,81]⟩
 | 49=>⟨#[67,76,67]⟩
 | 50=>⟨#[83,69,67]⟩
 | 51=>⟨#[67,76,73]⟩
 | 52=>⟨#[83,69,73]⟩
 | 53=>⟨#[84,89,65]⟩
 | 54=>⟨#[67,76,86]⟩
 | 55=>⟨#[67,76,68]⟩
 | 56=>⟨#[83,69,68]⟩
 | _=>⟨#[]⟩
def lGA:Nat->Int
 | 0=>10
 | 1=>3
 | 2=>2
 | 3=>6
 | 4=>11
 | 5=>4
 | 6=>8
 | _=>7
def fCA (r:Nat):Nat:=if r < 4 then 0 else 19+r
def wJA:Nat->Nat
 | 0=>27
 | 1=>28
 | 2=>29
 | 3=>30
 | 4=>0
 | 5=>24
 | 6=>25
 | _=>26
def rFA:Nat->Int
 | 1=>6
 | 5=>2
 | 6=>2
 | 7=>2
 | _=>0
def xDA (r p:Nat):Nat:=if r=4/\p=2 then 0 else 1+r
def iHA (r p:Nat):Int:=if r=4/\p=2 then 0 else lGA p
def bBA (r p:Nat):Nat:=
 match p with
 | 0=>if r=5 then 14 else 0
 | 1=>9+r
 | 2=>if r < 4 then 9+r else 13+r
 | 3=>9+r
 | 5=>9+r
 | 6=>if r=4\/r=5 then 17+r else 0
 | 7=>if r=4 then 0 else 9+r
 | _=>0
def nDA (r p:Nat):Int:=
 match p with
 | 0=>if r=5 then 2 else 0
 | 1=>3
 | 2=>if r < 4 then 1 else 0
 | 3=>6
 | 5=>if r=4\/r=5 then 5 else 4
 | 7=>if r=4 then 0 else if r=5 then 8 else 7
 | _=>0
def oBA (r p:Nat):Nat:=
 match p with
 | 0=>wJA r
 | 1=>if r=1 then 31 else fCA r
 | 2=>33+r
 | 3=>if r=1 then 31 else if r=2\/r=3 then 32 else fCA r
 | 4=>41+r
 | 5=>if r=4\/r=5 then fCA r else 0
 | 6=>49+r
 | 7=>if r=5 then 24 else 0
 | _=>0
def fEA (r p:Nat):Int:=
 match p with
 | 0=>rFA r
 | 1=>3
 | 3=>if r=3 then 9 else 6
 | 4=>12
 | 5=>if r=4\/r=5 then 4 else 0
 | 7=>if r=5 then 7 else 0
 | _=>0
def opId (b:Nat):Nat:=
 match b % 4 with
 | 0=>oBA (b / 32) (b / 4 % 8)
 | 1=>xDA (b / 32) (b / 4 % 8)
 | 2=>bBA (b / 32) (b / 4 % 8)
 | _=>0
def zEA (b:Nat):Int:=
 match b % 4 with
 | 0=>fEA (b / 32) (b / 4 % 8)
 | 1=>iHA (b / 32) (b / 4 % 8)
 | 2=>nDA (b / 32) (b / 4 % 8)
 | _=>0
def iAA (b:Nat):Int:=if opId b=0 then -1 else zEA b
def lAA (b:Nat):ByteArray:=opTx (opId b)
def gDA (m:Int):Int:=if m=0\/m=1 then 1 else if m=6\/m=7\/m=8\/m=9 then 3 else 2
def sAA (b:Nat):Int:=if opId b=0 then 0 else gDA (iAA b)
def zXA (i:Nat) (m:Int):Int:=
 if i=0 then 0 else if i=32 then 6 else if i=28 then 7 else if i=30 then 8 else if i=29 then 9 else if i=27 then 10
 else if i=35\/i=33 then 11 else if i=36\/i=34 then 12 else if i=5\/i=13\/i=23 then 3
 else if m=12 then 5 else if m=0\/m=1 then 1
 else if i=9\/i=11\/i=10\/i=12\/i=16\/i=15 then 4 else 2
def eAA (b:Nat):Int:=zXA (opId b) (iAA b)
def kindM (l:List UInt8) (m:Int):Int:=
 if m==12 then 5 else if m==0 then 1 else if m==1 then 1
 else if l==[65,83,76] then 4 else if l==[76,83,82] then 4 else if l==[82,79,76] then 4 else if l==[82,79,82] then 4 else if l==[73,78,67] then 4 else if l==[68,69,67] then 4 else 2
def kindN (l:List UInt8) (m:Int):Int:=
 if l==[74,77,80] then 6 else if l==[74,83,82] then 7 else if l==[82,84,83] then 8 else if l==[82,84,73] then 9 else if l==[66,82,75] then 10
 else if l==[80,72,65] then 11 else if l==[80,72,80] then 11 else if l==[80,76,65] then 12 else if l==[80,76,80] then 12
 else if l==[83,84,65] then 3 else if l==[83,84,88] then 3 else if l==[83,84,89] then 3 else kindM l m
def kindL (l:List UInt8) (m:Int):Int:=if l.isEmpty then 0 else kindN l m
theorem uBA {p:Nat->Prop} (h:∀ k:Fin 256,p k.1) {b:Nat} (hb:b < 256):p b:=h ⟨b,hb⟩
theorem pTA {b:Nat} (hb:b < 256):opId b<=56:=uBA (p:=fun b=>opId b<=56) cQb hb
theorem mJA {b:Nat} (hb:b < 256):0<=sAA b/\sAA b<=3:=uBA (p:=fun b=>0<=sAA b/\sAA b<=3) cQb hb
theorem yOA {b:Nat} (hb:b < 256):kindL (lAA b).data.toList (iAA b)=eAA b:=uBA (p:=fun b=>kindL (lAA b).data.toList (iAA b)=eAA b) cQb hb
def bit7 (b:Int):Bool:=decide (128<=b)
def isZ (b:Int):Bool:=b==0
def hasB (b m:Int):Bool:=bits .and .u8 b m != 0
def bI (c:Bool) (x:Int):Int:=if c then x else 0
theorem eHA {p:Int->Prop} (h:∀ n:Fin 256,p (n.val:Int)) (b:Int) (h0:0<=b) (h1:b<=255):p b:=by
 have:=h ⟨b.toNat,dQ⟩;simpa [Int.toNat_of_nonneg h0] using this
theorem xEA (b:Int) (h0:0<=b) (h1:b<=255):hasB b 128=bit7 b:=
 eHA (p:=fun b=>hasB b 128=bit7 b) cQb b h0 h1
theorem vFB (b:Int) (h0:0<=b) (h1:b<=255):hasB b 1=(b % 2==1):=
 eHA (p:=fun b=>hasB b 1=(b % 2==1)) cQb b h0 h1
theorem vEA (b:Int) (h0:0<=b) (h1:b<=255):bits .and .u8 b 15=b % 16:=
 eHA (p:=fun b=>bits .and .u8 b 15=b % 16) cQb b h0 h1
theorem eEA (b:Int) (h0:0<=b) (h1:b<=255):bits .and .u8 b 240=b - b % 16:=
 eHA (p:=fun b=>bits .and .u8 b 240=b - b % 16) cQb b h0 h1
def over (a b s:Int):Bool:=(bit7 a==bit7 b) && (bit7 a != bit7 s)
theorem dHA (x:Int) (h0:0<=x) (h1:x<=255):bit7 x=(BitVec.ofInt 8 x).msb:=by
 obtain⟨k,rfl⟩:=Int.eq_ofNat_of_zero_le h0;rw[BitVec.msb_eq_decide,BitVec.ofInt_natCast,BitVec.toNat_ofNat,Nat.mod_eq_of_lt dQ];unfold bit7;simp;omega
theorem xUA (x:BitVec 8):BitVec.ofInt 8 (x.toNat:Int)=x:=by
 rw[BitVec.ofInt_natCast,BitVec.ofNat_toNat,BitVec.setWidth_eq]
theorem tNA (x:BitVec 8):bit7 (x.toNat:Int)=x.msb:=by
 rw[dHA _ dQ (by have:=x.isLt;omega),xUA]
theorem u8_bv {op:BinOp} {x y:Int} (b:BitVec 8) (h:bits op .u8 x y=IntKind.u8.wrap (b.toNat:Int)):bits op .u8 x y=(b.toNat:Int):=by
 rw[h,IntKind.wrap_u8];have:=b.isLt;omega
theorem jZA (x y:Int) (a8:0<=x) (a9:x<=255) (b0:0<=y) (b5:y<=255):bit7 (bits .and .u8 x y)=(bit7 x && bit7 y):=by
 rw[dHA x a8 a9,dHA y b0 b5,<-BitVec.msb_and,<-tNA];rw[u8_bv (BitVec.ofInt 8 x &&& BitVec.ofInt 8 y) rfl]
theorem lKA (x y:Int) (a8:0<=x) (a9:x<=255) (b0:0<=y) (b5:y<=255):bit7 (bits .xor .u8 x y)=(bit7 x ^^ bit7 y):=by
 rw[dHA x a8 a9,dHA y b0 b5,<-BitVec.msb_xor,<-tNA];rw[u8_bv (BitVec.ofInt 8 x ^^^ BitVec.ofInt 8 y) rfl]
theorem rBA (op:BinOp) (x y:Int):0<=bits op .u8 x y/\bits op .u8 x y<=255:=by
 have h:∀ n,0<=IntKind.u8.wrap n/\IntKind.u8.wrap n<=255:=fun n=>by rw[IntKind.wrap_u8];omega
 exact h _
theorem hYA (a b s:Int) (h0:0<=a) (h1:a<=255) (h2:0<=b) (h3:b<=255) (h4:0<=s) (h5:s<=255) :
  hasB (bits .and .u8 (bits .xor .u8 IntKind.u8.max (bits .xor .u8 a b)) (bits .xor .u8 a s)) 128=over a b s:=by
 obtain⟨x0,x1⟩:=rBA .xor a b;obtain⟨y0,y1⟩:=rBA .xor a s;obtain⟨u0,u1⟩:=rBA .xor IntKind.u8.max (bits .xor .u8 a b);obtain⟨v0,v1⟩:=rBA .and (bits .xor .u8 IntKind.u8.max (bits .xor .u8 a b)) (bits .xor .u8 a s);rw[xEA _ v0 v1,jZA _ _ u0 u1 y0 y1,lKA _ _ iQ iQ x0 x1,lKA _ _ h0 h1 h2 h3,lKA _ _ h0 h1 h4 h5];have:bit7 IntKind.u8.max=true:=iQ;rw[this];unfold over;cases bit7 a<;>cases bit7 b<;>cases bit7 s<;>rfl
theorem nBB (a b s:Int) (h0:0<=a) (h1:a<=255) (h2:0<=b) (h3:b<=255) :
  over a b (s % 256)=(decide (a / 128 % 2=b / 128 % 2) && decide (a / 128 % 2≠s / 128 % 2)):=by
 unfold over bit7;rw[Bool.eq_iff_iff];simp;omega
def plS (a b:Int) (c:Bool):Int:=a+b+bI c 1
def plR (a b:Int) (c:Bool):Int:=plS a b c % 256
def plC (a b:Int) (c:Bool):Bool:=decide (255 < plS a b c)
def plV (a b:Int) (c:Bool):Bool:=over a b (plR a b c)
theorem bI_bd (c:Bool) (x:Int) (h:0<=x):0<=bI c x/\bI c x<=x:=by cases c<;>simp[bI]<;>omega
theorem rEA (x:Int) (k:Nat) (hk:k < 63):bits .and .i64 x ((2 ^ k - 1:Nat):Int)=((((x % 18446744073709551616).toNat % 2 ^ k:Nat)):Int):=by
 have hp:2 ^ k<=2 ^ 62:=Nat.pow_le_pow_right iQ dQ;have b7:(2:Nat) ^ 62=4611686018427387904:=iQ;have hx:(x % 18446744073709551616).toNat % 2 ^ k < 2 ^ k:=Nat.mod_lt _ (Nat.two_pow_pos k);show IntKind.i64.wrap ((BitVec.ofInt 64 x &&& BitVec.ofInt 64 ((2 ^ k - 1:Nat):Int)).toNat:Int)=_;have e1:(BitVec.ofInt 64 x).toNat=(x % 18446744073709551616).toNat:=by rw[BitVec.toNat_ofInt];rfl
 have e2:(BitVec.ofInt 64 ((2 ^ k - 1:Nat):Int)).toNat=2 ^ k - 1:=by
  rw[BitVec.ofInt_natCast,BitVec.toNat_ofNat];exact Nat.mod_eq_of_lt dQ
 rw[BitVec.toNat_and,e1,e2,Nat.and_two_pow_sub_one_eq_mod,IntKind.wrap_i64];generalize 2 ^ k=m at *;generalize (x % 18446744073709551616).toNat % m=y at *;omega
theorem mHA (x:Int):bits .and .i64 x 15=x % 16:=by
 have:=rEA x 4 iQ;simp only[Nat.reducePow,Nat.reduceSub] at this;rw[show ((15:Nat):Int)=15 from rfl] at this;rw[this];omega
theorem rCA (x:Int):bits .and .i64 x 255=x % 256:=by
 have:=rEA x 8 iQ;simp only[Nat.reducePow,Nat.reduceSub] at this;rw[show ((255:Nat):Int)=255 from rfl] at this;rw[this];omega
def dcS (a b:Int) (c:Bool):Int:=a % 16+b % 16+bI c 1
def dcL (a b:Int) (c:Bool):Int:=if 10<=dcS a b c then (dcS a b c+6) % 16+16 else dcS a b c
def dcH (a b:Int) (c:Bool):Int:=(a - a % 16)+(b - b % 16)+dcL a b c
def dcT (a b:Int) (c:Bool):Int:=if 160<=dcH a b c then dcH a b c+96 else dcH a b c
def adR (a b:Int) (d c:Bool):Int:=if d then dcT a b c % 256 else plR a b c
def adN (a b:Int) (d c:Bool):Bool:=if d then bit7 (dcH a b c % 256) else bit7 (plR a b c)
def adV (a b:Int) (d c:Bool):Bool:=if d then over a b (dcH a b c % 256) else plV a b c
def adZ (a b:Int) (c:Bool):Bool:=isZ (plR a b c)
def adC (a b:Int) (d c:Bool):Bool:=if d then decide (255 < dcT a b c) else plC a b c
def sbS (a b:Int) (c:Bool):Int:=a % 16 - b % 16 - 1+bI c 1
def sbL (a b:Int) (c:Bool):Int:=if sbS a b c < 0 then (sbS a b c - 6) % 16 - 16 else sbS a b c
def sbH (a b:Int) (c:Bool):Int:=(a - a % 16) - (b - b % 16)+sbL a b c
def sbT (a b:Int) (c:Bool):Int:=if sbH a b c < 0 then sbH a b c - 96 else sbH a b c
def sbR (a b:Int) (d c:Bool):Int:=if d then sbT a b c % 256 else plR a (255 - b) c
theorem zIA (a b:Int) (d c:Bool):0<=adR a b d c/\adR a b d c<=255:=by
 unfold adR plR;split<;>omega
theorem qJA (a b:Int) (d c:Bool):0<=sbR a b d c/\sbR a b d c<=255:=by
 unfold sbR plR;split<;>omega
theorem bOA (b:Int) (h0:0<=b) (h1:b<=255):bits .xor .u8 IntKind.u8.max b=255 - b:=
 eHA (p:=fun b=>bits .xor .u8 IntKind.u8.max b=255 - b) cQb b h0 h1
theorem wKA (x:Int):bit7 (x % 256)=(x / 128 % 2==1):=by
 unfold bit7;rw[Bool.eq_iff_iff];simp;omega
def mvR (b:Int) (up inn:Bool):Int:=if up then b*2 % 256+bI inn 1 else b / 2+bI inn 128
def mvC (b:Int) (up:Bool):Bool:=if up then bit7 b else b % 2==1
theorem zBA (b:Int) (up inn:Bool) (h0:0<=b) (h1:b<=255):0<=mvR b up inn/\mvR b up inn<=255:=by
 unfold mvR bI;cases up<;>cases inn<;>simp<;>omega
def cmC (a b:Int):Bool:=decide (b<=a)
def pkV (n v J d i z c:Bool):Int:=bI n 128+bI v 64+32+bI J 16+bI d 8+bI i 4+bI z 2+bI c 1
theorem eGA (n v J d i z c:Bool):0<=pkV n v J d i z c/\pkV n v J d i z c<=255:=by
 cases n<;>cases v<;>cases J<;>cases d<;>cases i<;>cases z<;>cases c<;>decide
theorem pk_or:∀ n v J d i z c:Bool,bits .or .u8 (bits .or .u8 (bits .or .u8 (bits .or .u8 (bits .or .u8 (bits .or .u8 (bits .or .u8 32 (bI n 128)) (bI v 64)) (bI J 16)) (bI d 8)) (bI i 4)) (bI z 2)) (bI c 1)=pkV n v J d i z c:=by
 decide +kernel
theorem mBB (b:Int) (h0:0<=b) (h1:b<=255):bits .or .u8 (b / 2) 128=b / 2+128:=
 eHA (p:=fun b=>bits .or .u8 (b / 2) 128=b / 2+128) cQb b h0 h1
theorem eGB (b:Int) (h0:0<=b) (h1:b<=255):bits .or .u8 (b*2 % 256) 1=b*2 % 256+1:=
 eHA (p:=fun b=>bits .or .u8 (b*2 % 256) 1=b*2 % 256+1) cQb b h0 h1
theorem mTA:bits .xor .u8 IntKind.u8.max (bits .xor .u8 IntKind.u8.max 0 / 2)=128:=cQb
structure CycN where
 addr:Nat
 data:Nat
 wr:Bool
def CycN.ok (c:CycN):Prop:=c.addr < 65536/\c.data < 256
def gBA (c:CycN):List Value:=[.int .u16 (c.addr:Int),.int .u8 (c.data:Int),.bool c.wr]
structure BusN where
 mem:List Nat
 log:List CycN
def BusN.spot (b:BusN) (a:Nat):Nat:=a % 65536 % b.mem.length
def BusN.get (b:BusN) (a:Nat):Nat:=b.mem.getD (b.spot a) 0
def BusN.rd (b:BusN) (a:Nat):BusN:=⟨b.mem,b.log++[⟨a % 65536,b.get a,false⟩]⟩
def BusN.put (b:BusN) (a d:Nat):BusN:=⟨b.mem.set (b.spot a) d,b.log++[⟨a % 65536,d,true⟩]⟩
def stk (s:Nat):Nat:=256+s % 256
def word (lo hi:Nat):Nat:=lo+256*hi
def CpuN.nz (c:CpuN) (x:Nat):CpuN:={ c with N:=bit7 x,Z:=isZ x }
def idxN (c:CpuN) (m:Int):Nat:=if m=4\/m=7\/m=10 then c.X else if m=5\/m=8\/m=11 then c.Y else 0
def baseN (b:BusN) (c:CpuN) (m:Int):Nat×BusN:=
 let z:=b.get (c.PC+1);let E:=b.rd (c.PC+1)
 if m=11 then (word (E.get z) ((E.rd z).get ((z+1) % 256)),(E.rd z).rd ((z+1) % 256))
 else (word z (E.get (c.PC+2)),E.rd (c.PC+2))
def kAA (b:BusN) (c:CpuN) (m k:Int):Nat×BusN:=
 let z:=b.get (c.PC+1);let E:=b.rd (c.PC+1)
 if m=3 then (z,E)
 else if m=4\/m=5 then ((z+idxN c m) % 256,E.rd z)
 else if m=10 then (word ((E.rd z).get ((z+c.X) % 256)) (((E.rd z).rd ((z+c.X) % 256)).get ((z+c.X+1) % 256)),((E.rd z).rd ((z+c.X) % 256)).rd ((z+c.X+1) % 256))
 else
  let base:=(baseN b c m).1;let b2:=(baseN b c m).2;let e:=(base+idxN c m) % 65536;let w:=base / 256*256+e % 256
  if m≠6/\(k≠2\/w≠e) then (e,b2.rd w) else (e,b2)
def useL (c:CpuN) (l:List UInt8) (m:Nat):CpuN:=
 if l==[76,68,65] then { c with A:=m }.nz m
 else if l==[76,68,88] then { c with X:=m }.nz m
 else if l==[76,68,89] then { c with Y:=m }.nz m
 else if l==[79,82,65] then { c with A:=(bits .or .u8 c.A m).toNat }.nz (bits .or .u8 c.A m).toNat
 else if l==[65,78,68] then { c with A:=(bits .and .u8 c.A m).toNat }.nz (bits .and .u8 c.A m).toNat
 else if l==[69,79,82] then { c with A:=(bits .xor .u8 c.A m).toNat }.nz (bits .xor .u8 c.A m).toNat
 else if l==[65,68,67] then { c with A:=(adR c.A m c.D c.C).toNat,N:=adN c.A m c.D c.C,V:=adV c.A m c.D c.C,Z:=adZ c.A m c.C,C:=adC c.A m c.D c.C }
 else if l==[83,66,67] then { c with A:=(sbR c.A m c.D c.C).toNat,N:=bit7 (plR c.A (255 - m) c.C),V:=plV c.A (255 - m) c.C,Z:=isZ (plR c.A (255 - m) c.C),C:=plC c.A (255 - m) c.C }
 else if l==[67,77,80] then { c with N:=bit7 (((c.A:Int) - m) % 256),Z:=isZ (((c.A:Int) - m) % 256),C:=cmC c.A m }
 else if l==[67,80,88] then { c with N:=bit7 (((c.X:Int) - m) % 256),Z:=isZ (((c.X:Int) - m) % 256),C:=cmC c.X m }
 else if l==[67,80,89] then { c with N:=bit7 (((c.Y:Int) - m) % 256),Z:=isZ (((c.Y:Int) - m) % 256),C:=cmC c.Y m }
 else if l==[66,73,84] then { c with N:=bit7 m,V:=hasB m 64,Z:=isZ (bits .and .u8 c.A m) }
 else c
def chgB (l:List UInt8) (m:Nat) (cC:Bool):Nat:=
 if l==[65,83,76] then (mvR m true false).toNat
 else if l==[76,83,82] then (mvR m false false).toNat
 else if l==[82,79,76] then (mvR m true cC).toNat
 else if l==[82,79,82] then (mvR m false cC).toNat
 else if l==[73,78,67] then (m+1) % 256
 else (m+255) % 256
def chgC (l:List UInt8) (m:Nat) (cC:Bool):Bool:=
 if l==[65,83,76] then mvC m true
 else if l==[76,83,82] then mvC m false
 else if l==[82,79,76] then mvC m true
 else if l==[82,79,82] then mvC m false
 else cC
def CpuN.chg (c:CpuN) (l:List UInt8) (m:Nat):CpuN:={ c with N:=bit7 (chgB l m c.C),Z:=isZ (chgB l m c.C),C:=chgC l m c.C }
def flagL (c:CpuN) (l:List UInt8):CpuN:=
 if l==[67,76,67] then { c with C:=false }
 else if l==[83,69,67] then { c with C:=true }
 else if l==[67,76,73] then { c with I:=false }
 else if l==[83,69,73] then { c with I:=true }
 else if l==[67,76,86] then { c with V:=false }
 else if l==[67,76,68] then { c with D:=false }
 else if l==[83,69,68] then { c with D:=true }
 else c
def regL (c:CpuN) (l:List UInt8):CpuN:=
 if l==[73,78,88] then { c with X:=(c.X+1) % 256 }.nz ((c.X+1) % 256)
 else if l==[73,78,89] then { c with Y:=(c.Y+1) % 256 }.nz ((c.Y+1) % 256)
 else if l==[68,69,88] then { c with X:=(c.X+255) % 256 }.nz ((c.X+255) % 256)
 else if l==[68,69,89] then { c with Y:=(c.Y+255) % 256 }.nz ((c.Y+255) % 256)
 else if l==[84,65,88] then { c with X:=c.A }.nz c.A
 else if l==[84,65,89] then { c with Y:=c.A }.nz c.A
 else if l==[84,88,65] then { c with A:=c.X }.nz c.X
 else if l==[84,89,65] then { c with A:=c.Y }.nz c.Y
 else if l==[84,83,88] then { c with X:=c.S }.nz c.S
 else if l==[84,88,83] then { c with S:=c.X }
 else c
def impL (c:CpuN) (l:List UInt8) (m:Int):CpuN:=
 if m=1 then { c.chg l c.A with A:=chgB l c.A c.C } else flagL (regL c l) l
def aBA (c:CpuN) (l:List UInt8):Bool:=
 if l==[66,80,76] then !c.N
 else if l==[66,77,73] then c.N
 else if l==[66,86,67] then !c.V
 else if l==[66,86,83] then c.V
 else if l==[66,67,67] then !c.C
 else if l==[66,67,83] then c.C
 else if l==[66,78,69] then !c.Z
 else c.Z
def iCA (c:CpuN) (l:List UInt8):Nat:=
 if l==[83,84,88] then c.X else if l==[83,84,89] then c.Y else c.A
def pushN (b:BusN) (c:CpuN) (K:Nat) (J:Bool) (a6:Nat):CpuN×BusN:=
 let b3:=((b.put (stk c.S) (K / 256 % 256)).put (stk (c.S+255)) (K % 256)).put (stk (c.S+254)) (pkV c.N c.V J c.D c.I c.Z c.C).toNat
 ({ c with PC:=word (b3.get a6) (b3.get (a6+1)),S:=(c.S+253) % 256,I:=true },(b3.rd a6).rd (a6+1))
def offN (d:Nat):Nat:=if 128<=d then d+65280 else d
def fBA (b:BusN) (c:CpuN) (l:List UInt8):CpuN×BusN:=
 let d:=b.get (c.PC+1);let E:=b.rd (c.PC+1);let K:=(c.PC+2) % 65536
 if aBA c l then
  let t:=(K+offN d) % 65536;let w:=K / 256*256+t % 256
  ({ c with PC:=t },if w=t then E.rd K else (E.rd K).rd w)
 else ({ c with PC:=K },E)
def holdN (b:BusN) (c:CpuN) (l:List UInt8):CpuN×BusN:=
 let K:=(c.PC+1) % 65536
 if l==[80,72,65] then ({ c with PC:=K,S:=(c.S+255) % 256 },b.put (stk c.S) c.A)
 else if l==[80,72,80] then ({ c with PC:=K,S:=(c.S+255) % 256 },b.put (stk c.S) (pkV c.N c.V true c.D c.I c.Z c.C).toNat)
 else
  let d:=b.get (stk (c.S+1));let b2:=(b.rd (stk c.S)).rd (stk (c.S+1))
  if l==[80,76,80] then ({ c with PC:=K,S:=(c.S+1) % 256,N:=hasB d 128,V:=hasB d 64,D:=hasB d 8,I:=hasB d 4,Z:=hasB d 2,C:=hasB d 1 },b2)
  else ({ c with PC:=K,S:=(c.S+1) % 256,A:=d }.nz d,b2)
def goN (b:BusN) (c:CpuN) (l:List UInt8) (m:Int):CpuN×BusN:=
 let z:=b.get (c.PC+1);let E:=b.rd (c.PC+1)
 if l==[74,77,80] then
  let a:=word z (E.get (c.PC+2));let b2:=E.rd (c.PC+2)
  if m=9 then ({ c with PC:=word (b2.get a) (b2.get (a / 256*256+(a+1) % 256)) },(b2.rd a).rd (a / 256*256+(a+1) % 256))
  else ({ c with PC:=a },b2)
 else if l==[74,83,82] then
  let a7:=(c.PC+2) % 65536;let b4:=((E.rd (stk c.S)).put (stk c.S) (a7 / 256)).put (stk (c.S+255)) (a7 % 256)
  ({ c with PC:=word z (b4.get (c.PC+2)),S:=(c.S+254) % 256 },b4.rd (c.PC+2))
 else if l==[82,84,83] then
  let a:=word (b.get (stk (c.S+1))) (b.get (stk (c.S+2)))
  ({ c with PC:=(a+1) % 65536,S:=(c.S+2) % 256 },(((E.rd (stk c.S)).rd (stk (c.S+1))).rd (stk (c.S+2))).rd a)
 else if l==[82,84,73] then
  let d:=b.get (stk (c.S+1))
  ({ c with PC:=word (b.get (stk (c.S+2))) (b.get (stk (c.S+3))),S:=(c.S+3) % 256,N:=hasB d 128,V:=hasB d 64,D:=hasB d 8,I:=hasB d 4,Z:=hasB d 2,C:=hasB d 1 },
   (((E.rd (stk c.S)).rd (stk (c.S+1))).rd (stk (c.S+2))).rd (stk (c.S+3)))
 else if l==[66,82,75] then pushN E c ((c.PC+2) % 65536) true 65534
 else holdN E c l
def dataN (b:BusN) (c:CpuN) (j:Nat):CpuN×BusN:=
 let l:=(lAA j).toList;let K:=(c.PC+(sAA j).toNat) % 65536
 if iAA j=2 then ({ useL c l (b.get (c.PC+1)) with PC:=K },b.rd (c.PC+1))
 else
  let e:=(kAA b c (iAA j) (eAA j)).1;let E:=(kAA b c (iAA j) (eAA j)).2;let c1:CpuN:={ c with PC:=K }
  if eAA j=2 then (useL c1 l (E.get e),E.rd e)
  else if eAA j=3 then (c1,E.put e (iCA c1 l))
  else (c1.chg l (E.get e),((E.rd e).put e (E.get e)).put e (chgB l (E.get e) c1.C))
def opN (b:BusN) (c:CpuN):CpuN×BusN:=
 let j:=b.get c.PC;let E:=b.rd c.PC;let l:=(lAA j).toList
 if eAA j=1 then ({ impL c l (iAA j) with PC:=(c.PC+1) % 65536 },E.rd (c.PC+1))
 else if eAA j=5 then fBA E c l
 else if eAA j=2\/eAA j=3\/eAA j=4 then dataN E c j
 else goN E c l (iAA j)
def lFA (b:BusN) (c:CpuN) (nmi:Bool):CpuN×BusN:=
 pushN ((b.rd c.PC).rd c.PC) c c.PC false (if nmi then 65530 else 65534)
theorem bcell {W H:World} (hb:Below W.heap.size W H):(∀ b o,b < W.heap.size->H.cell? ⟨b,o,none⟩=W.cell? ⟨b,o,none⟩)/\(∀ b o,b < W.heap.size->H.frozen? ⟨b,o,none⟩=W.frozen? ⟨b,o,none⟩):=
 ⟨fun b o h=>hb.cell (p:=⟨b,o,none⟩) h,fun b o h=>hb.frozen (p:=⟨b,o,none⟩) h⟩
theorem box6 {w H:World} {O Q R T U a5:Value} {t:TypeId} {o:Obj} (hb:Below ((w.alloc (.cells #[O,Q,R,T,U,a5] t)).alloc o).heap.size ((w.alloc (.cells #[O,Q,R,T,U,a5] t)).alloc o) H) :
  H.cell? ⟨w.heap.size,0,none⟩=some O/\H.cell? ⟨w.heap.size,1,none⟩=some Q/\H.cell? ⟨w.heap.size,2,none⟩=some R/\H.cell? ⟨w.heap.size,3,none⟩=some T/\H.cell? ⟨w.heap.size,4,none⟩=some U/\H.cell? ⟨w.heap.size,5,none⟩=some a5/\H.frozen? ⟨w.heap.size,0,none⟩=false/\H.frozen? ⟨w.heap.size,1,none⟩=false/\H.frozen? ⟨w.heap.size,2,none⟩=false/\H.frozen? ⟨w.heap.size,3,none⟩=false/\H.frozen? ⟨w.heap.size,4,none⟩=false/\H.frozen? ⟨w.heap.size,5,none⟩=false:=by
 obtain⟨hc,hf⟩:=bcell hb;refine⟨?_,?_,?_,?_,?_,?_,?_,?_,?_,?_,?_,?_⟩;all_goals
  first
  | (rw[hc _ _ qQ];simp[go_sem];done)
  | (rw[hf _ _ qQ];simp[go_sem];done)
theorem keep6 {W H:World} {B:Nat} {O Q R T U a5:Value} {t:TypeId} (hb:Below W.heap.size W H) (h:W.heap[B]?=some (.cells #[O,Q,R,T,U,a5] t (0,0))):H.heap[B]?=some (.cells #[O,Q,R,T,U,a5] t (0,0)):=
 (hb.block B (Array.getElem?_eq_some_iff.1 h).1).trans h
theorem new6 (W:World) {O Q R T U a5:Value} {t:TypeId}:(W.alloc (.cells #[O,Q,R,T,U,a5] t)).heap[W.heap.size]?=some (.cells #[O,Q,R,T,U,a5] t (0,0)):=
 World.alloc_heap_new W _
theorem bFB {H:World} {B:Nat} {O Q R T U a5:Value} {t:TypeId} (h:H.heap[B]?=some (.cells #[O,Q,R,T,U,a5] t (0,0))) :
  B < H.heap.size/\H.cell? ⟨B,0,none⟩=some O/\H.cell? ⟨B,1,none⟩=some Q/\H.cell? ⟨B,2,none⟩=some R/\H.cell? ⟨B,3,none⟩=some T/\H.cell? ⟨B,4,none⟩=some U/\H.cell? ⟨B,5,none⟩=some a5:=by
 refine⟨(Array.getElem?_eq_some_iff.1 h).1,?_,?_,?_,?_,?_,?_⟩;all_goals simp[World.cell?,h]
theorem oGA {k:IntKind} {a b:Int} (h:a=b):Ending.returned (.int k a)=.returned (.int k b):=by rw[h]
theorem zBB {a b:Bool} (h:a=b):Ending.returned (.bool a)=.returned (.bool b):=by rw[h]
theorem dCA (b m:Int) (w:World) :
  Calls Tryz.prog 191 #[.int .u8 b,.int .u8 m] w fun e w'=>e=.returned (.bool (hasB b m))/\w=w':=by
 go_enter Tryz.func191,Tryz.ntmps191;go_wp2;go_ret;exact⟨rfl,rfl⟩
theorem oCA (b:Int) (on:Bool) (w:World) :
  Calls Tryz.prog 160 #[.int .u8 b,.bool on] w fun e w'=>e=.returned (.int .u8 (bI on b))/\w=w':=by
 cases on;all_goals
  go_enter Tryz.func160,Tryz.ntmps160;go_wp2;go_ret;exact⟨rfl,rfl⟩
theorem tCA (b:Int) (on:Bool) (w:World) :
  Calls Tryz.prog 129 #[.bool on,.int .i64 b] w fun e w'=>e=.returned (.int .i64 (bI on b))/\w=w':=by
 cases on;all_goals
  go_enter Tryz.func129,Tryz.ntmps129;go_wp2;go_ret;exact⟨rfl,rfl⟩
theorem oEA (a b s:Int) (w:World) (h0:0<=a) (h1:a<=255) (h2:0<=b) (h3:b<=255) (h4:0<=s) (h5:s<=255) :
  Calls Tryz.prog 204 #[.int .u8 a,.int .u8 b,.int .u8 s] w fun e w'=>e=.returned (.bool (over a b s))/\w=w':=by
 go_enter Tryz.func204,Tryz.ntmps204;go_wp2_with fail;refine (dCA _ _ _).mono ?_;rintro e w' ⟨rfl,rfl⟩;rw[hYA a b s h0 h1 h2 h3 h4 h5];go_wp2;go_ret;exact⟨rfl,rfl⟩
theorem kFA (a b s:Int) (w:World) (h0:0<=a) (h1:a<=255) (h2:0<=b) (h3:b<=255) (h4:0<=s) (h5:s<=1000) :
  Calls Tryz.prog 149 #[.int .i64 a,.int .i64 b,.int .i64 s] w fun e w'=>e=.returned (.bool (over a b (s % 256)))/\w=w':=by
 have HO:=j_ (nBB a b s h0 h1 h2 h3);by_cases h:a / 128 % 2=b / 128 % 2
 ·have h6:(a / 128 % 2==b / 128 % 2)=true:=by simpa using h
  have HH:=j_ h;clear h;go_enter Tryz.func149,Tryz.ntmps149;go_wp2;go_ret;refine⟨?_,rfl⟩;rw[HO.out];refine zBB ?_;rw[Bool.eq_iff_iff];simp[HH.out]
 ·have h6:(a / 128 % 2==b / 128 % 2)=false:=by simpa using h
  have HH:=j_ h;clear h;go_enter Tryz.func149,Tryz.ntmps149;go_wp2;go_ret;refine⟨?_,rfl⟩;rw[HO.out];simp[HH.out]
theorem cBA (b:Int) (n v d i z c:Bool) (w:World) (_h0:0<=b) (_h1:b<=255) :
  Calls Tryz.prog 109 #[.int .u8 b,.agg #[.bool n,.bool v,.bool d,.bool i,.bool z,.bool c]] w fun e w'=>e=.returned (.agg #[.bool (bit7 b),.bool v,.bool d,.bool i,.bool (isZ b),.bool c])/\Below w.heap.size w w':=by
 go_enter Tryz.func109,Tryz.ntmps109;go_wp2;refine bodyPost_ret (v:=.agg #[.bool (bit7 b),.bool v,.bool d,.bool i,.bool (isZ b),.bool c]) (by simp[results,Tryz.results109,go_sem,bit7,isZ]) rfl ⟨rfl,?_⟩;exact ((Below.refl _ _).alloc (Nat.le_refl _) _).alloc yQ _
theorem iBA (b:Int) (n v d i z c:Bool) (w:World) (h0:0<=b) (h1:b<=255) :
  Calls Tryz.prog 176 #[.int .u8 b,.agg #[.bool n,.bool v,.bool d,.bool i,.bool z,.bool c]] w fun e w'=>e=.returned (.agg #[.bool (bit7 b),.bool v,.bool d,.bool i,.bool (isZ b),.bool c])/\Below w.heap.size w w':=by
 go_enter Tryz.func176,Tryz.ntmps176;go_wp2_with fail;refine (dCA _ _ _).mono ?_;rintro e w' ⟨rfl,rfl⟩;rw[xEA b h0 h1];go_wp2;refine bodyPost_ret (v:=.agg #[.bool (bit7 b),.bool v,.bool d,.bool i,.bool (isZ b),.bool c]) (by simp[results,Tryz.results176,go_sem,isZ]) rfl ⟨rfl,?_⟩;exact ((Below.refl _ _).alloc (Nat.le_refl _) _).alloc yQ _
theorem kDA (a b:Int) (n v d i z c:Bool) (w:World) (h0:0<=a) (h1:a<=255) (h2:0<=b) (h3:b<=255) :
  Calls Tryz.prog 201 #[.int .u8 a,.int .u8 b,.agg #[.bool n,.bool v,.bool d,.bool i,.bool z,.bool c]] w fun e w'=>e=.returned (.tuple #[.int .u8 (plR a b c),.agg #[.bool (bit7 (plR a b c)),.bool (plV a b c),.bool d,.bool i,.bool (isZ (plR a b c)),.bool (plC a b c)]])/\Below w.heap.size w w':=by
 obtain⟨ci,hci⟩:∃ x,bI c 1=x:=⟨_,rfl⟩;obtain⟨b8,b9⟩:0<=ci/\ci<=1:=bQe;have b6:=j_ hci;clear hci;go_enter Tryz.func201,Tryz.ntmps201;go_wp2_with fail;refine (oCA _ _ _).mono ?_;rintro e w' ⟨rfl,rfl⟩;rw[b6.out];go_wp2_with fail;refine (oEA _ _ _ _ h0 h1 h2 h3 dQ dQ).mono ?_;rintro e w' ⟨rfl,rfl⟩;go_wp2_with fail;refine (iBA _ _ _ _ _ _ _ _ dQ dQ).mono ?_;rintro e H ⟨rfl,hb⟩;obtain⟨hc,hf⟩:=bcell hb;have hz:w.heap.size+1 < H.heap.size:=uQ;go_wp2;refine bodyPost_ret (v:=.tuple #[.int .u8 (plR a b c),.agg #[.bool (bit7 (plR a b c)),.bool (plV a b c),.bool d,.bool i,.bool (isZ (plR a b c)),.bool (plC a b c)]]) (by simp[results,Tryz.results201,go_sem,plR,plV,plC,plS,b6.out,hc]) rfl ⟨rfl,?_⟩;exact (((((((((Below.refl _ _).alloc (Nat.le_refl _) _).alloc yQ _).trans (hb.mono qQ)).setCell yQ _).setCell yQ _).setCell yQ _).setCell yQ _).setCell yQ _).setCell yQ _

end Go.Proofs.YtckfdbjjjgfbfaaGreat
