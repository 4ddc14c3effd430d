import Derived.RowKit
set_option maxHeartbeats 0
set_option maxRecDepth 100000
namespace Go.Proofs.YtcoaphfimellcaaGreatDoor
open Go.RowKit
abbrev Ad(b o:Nat):Addr:=⟨b,o,none⟩
abbrev gY(x0 x1:Int):Obj:=.cells #[.int .i64 x0,.int .i64 x1] 76
abbrev ru(x0:Bool)(x1:Int)(x2:ByteArray):Obj:=.cells #[.bool x0,.int .i64 x1,.string x2] 229
abbrev uo(x0 x1:Int)(x2:ByteArray)(x3:Int):Obj:=.cells #[.int .i64 x0,.int .i64 x1,.string x2,.int .i64 x3] 106
abbrev wG(a0:Option Addr)(n0 c0:Nat)(a1:Option Addr)(n1 c1:Nat):Obj:=.cells #[.slice a0 n0 c0,.slice a1 n1 c1] 154
abbrev Nd(x0:Value)(a1:Option Addr)(n1 c1:Nat)(x2:Value):Obj:=.cells #[x0,.slice a1 n1 c1,x2] 145
abbrev Vz(x0:ByteArray)(x1:Int):Obj:=.cells #[.string x0,.int .i64 x1] 34
abbrev YO(x0:ByteArray)(x1:Int):Obj:=.cells #[.string x0,.int .i64 x1] 202
abbrev obJ(x0 x1:Value):Obj:=.cells #[x0,x1] 154
abbrev Zm(x0:Int)(x1:ByteArray)(x2:Int)(a3:Option Addr)(n3 c3:Nat):Obj:=.cells #[.int .i64 x0,.string x1,.int .i64 x2,.slice a3 n3 c3] 113
abbrev obL(x0:Int)(x1:Value):Obj:=.cells #[.int .i64 x0,x1] 261
abbrev obM(x0:ByteArray)(x1:Int)(x2:ByteArray)(x3:Int)(a4:Option Addr)(n4 c4:Nat)(x5:Int)(x6:Value):Obj:=.cells #[.string x0,.int .i64 x1,.string x2,.int .i64 x3,.slice a4 n4 c4,.int .i64 x5,x6] 188
abbrev obN(x0 x1:Value)(x2:Int):Obj:=.cells #[x0,x1,.int .i64 x2] 205
abbrev obP(x0:Bool)(x1:Int)(x2:ByteArray)(x3 x4:Int):Obj:=.cells #[.bool x0,.int .i64 x1,.string x2,.int .i64 x3,.int .i64 x4] 298
abbrev obQ(x0:Int)(a1:Option Addr)(n1 c1:Nat):Obj:=.cells #[.int .i64 x0,.slice a1 n1 c1] 174
abbrev obR(a0:Option Addr)(n0 c0:Nat)(x1:Value):Obj:=.cells #[.slice a0 n0 c0,x1] 143
abbrev obS(x0:ByteArray)(x1:Int)(a2:Option Addr)(n2 c2:Nat):Obj:=.cells #[.string x0,.int .i64 x1,.slice a2 n2 c2] 179
abbrev obT(x0 x1:Int)(x2 x3:Value):Obj:=.cells #[.int .i64 x0,.int .i64 x1,x2,x3] 329
abbrev obU(x0:ByteArray)(x1:Int):Obj:=.cells #[.string x0,.int .i64 x1] 110
abbrev obV(x0 x1 x2:Int)(x3 x4:Bool)(x5:Int):Obj:=.cells #[.int .i64 x0,.int .i64 x1,.int .i64 x2,.bool x3,.bool x4,.int .i64 x5] 53
abbrev obW(x0:Value)(x1:Bool):Obj:=.cells #[x0,.bool x1] 320
abbrev obX(x0 x1:ByteArray):Obj:=.cells #[.string x0,.string x1] 198
abbrev obY(x0 x1 x2 x3:Int):Obj:=.cells #[.int .i64 x0,.int .i64 x1,.int .i64 x2,.int .i64 x3] 213
abbrev obZ(x0 x1:Int)(x2:Value):Obj:=.cells #[.int .i64 x0,.int .i64 x1,x2] 325
abbrev Zn(x0:ByteArray)(x1:Int):Obj:=.cells #[.string x0,.int .i64 x1] 133
abbrev VA(x0 x1:Int)(x2:Bool)(x3:Int)(x4:ByteArray):Obj:=.cells #[.int .i64 x0,.int .i64 x1,.bool x2,.int .i64 x3,.string x4] 124
abbrev ad2(x0:Int)(x1:Value):Obj:=.cells #[.int .i64 x0,x1] 193
abbrev Zo(x0:ByteArray)(x1:Int)(a2:Option Addr)(n2 c2:Nat):Obj:=.cells #[.string x0,.int .i64 x1,.slice a2 n2 c2] 171
abbrev ad3(x0:ByteArray)(x1 x2:Int)(x3:Value):Obj:=.cells #[.string x0,.int .i64 x1,.int .i64 x2,x3] 288
abbrev ad4(x0:ByteArray)(x1 x2 x3 x4 x5:Int)(x6:ByteArray):Obj:=.cells #[.string x0,.int .i64 x1,.int .i64 x2,.int .i64 x3,.int .i64 x4,.int .i64 x5,.string x6] 233
abbrev ad5(x0:Int)(x1:Value):Obj:=.cells #[.int .i64 x0,x1] 185
abbrev aib(x0:Value)(a1:Option Addr)(n1 c1:Nat)(x2:Int):Obj:=.cells #[x0,.slice a1 n1 c1,.int .i64 x2] 205
