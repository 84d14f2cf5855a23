import Derived.Test.YtckfdbjjjgfbfaaGreatVAluA
namespace Go.Proofs.YtckfdbjjjgfbfaaGreat
open Go.RowKit
abbrev cQ (c:CpuN) (l:List Value):List Value:=.int .u8 (c.A:Int) :: .int .u8 (c.X:Int) :: .int .u8 (c.Y:Int) :: .int .u8 (c.S:Int) :: .int .u16 (c.PC:Int) :: .bool c.N :: .bool c.V :: .bool c.D :: .bool c.I :: .bool c.Z :: .bool c.C :: l
abbrev zQ (l:List Value):List Value:=.int .u8 0 :: .int .u8 0 :: .int .u8 0 :: .int .u8 0 :: .int .u16 0 :: .bool false :: .bool false :: .bool false :: .bool false :: .bool false :: .bool false :: l
abbrev sQ (W:World) (B:Nat) (c:CpuN):World:=((((((((((W.setCell ⟨B,0,none⟩ (.int .u8 (c.A:Int))).setCell ⟨B,1,none⟩ (.int .u8 (c.X:Int))).setCell ⟨B,2,none⟩ (.int .u8 (c.Y:Int))).setCell ⟨B,3,none⟩ (.int .u8 (c.S:Int))).setCell ⟨B,4,none⟩ (.int .u16 (c.PC:Int))).setCell ⟨B,5,none⟩ (.bool c.N)).setCell ⟨B,6,none⟩ (.bool c.V)).setCell ⟨B,7,none⟩ (.bool c.D)).setCell ⟨B,8,none⟩ (.bool c.I)).setCell ⟨B,9,none⟩ (.bool c.Z)).setCell ⟨B,10,none⟩ (.bool c.C)

end Go.Proofs.YtckfdbjjjgfbfaaGreat
