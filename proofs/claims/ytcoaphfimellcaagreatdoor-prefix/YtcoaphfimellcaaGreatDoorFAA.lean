import Derived.WalkLawsBesides
import Derived.Test.YtcoaphfimellcaaGreatDoorFZZ
set_option maxHeartbeats 0
set_option maxRecDepth 100000
namespace Go.Proofs.YtcoaphfimellcaaGreatDoor
open Go.RowKit
open Option renaming some→σ,none→ν
open Go renaming World→ω,Value→υ
open Go.Value renaming int→ι,slice→ψ
variable{w i:ω}{m:List Nat}{x s b:Nat}{v g:ByteArray}{n:List ByteArray}{r:υ}{u:Obj}
def bs(l:List UInt8):ByteArray:=⟨⟨l⟩⟩
def Nm8(s:ByteArray):Prop:=s.size<=8/\∀c∈s.data.toList,c≠10
def cR(n:Int):Prop:=-9223372036854775808<=n/\n<=9223372036854775807
def jN(x y:ByteArray):Bool:=decide (x.data=y.data)
theorem kA:jN v g=true↔v=g:=by unfold jN;rw[dE];exact⟨λh=>by cases v;cases g;simp at h;rw[h],λh=>by rw[h]⟩
inductive Tk where
 | stop | bad
 | word (s:ByteArray) | name (s:ByteArray) | num (n:Nat) | str (s:ByteArray) | sign (s:ByteArray)
structure Tok where
 k:Tk
 pl:Nat
def iV(n:Nat):Bool:=decide (97<=n)&&decide (n<=122)
def jP(n:Nat):Bool:=decide (48<=n)&&decide (n<=57)
def da(c:UInt8):Bool:=iV c.toNat
def cX(c:UInt8):Bool:=jP c.toNat
def fX(c:UInt8):Bool:=decide (32<=c.toNat)&&decide (c.toNat<=126)&&!decide (c.toNat=39)
def bS(c:UInt8):Bool:=decide (c.toNat=32)
def aP(S:ByteArray)(f:UInt8->Bool)(i:Nat):Nat:=
 if h:i<S.size then(if f S[i]then aP S f (i+1)else i)else i
 termination_by S.size - i
theorem eP(S:ByteArray)(b:UInt8->Bool)(a:Nat):a<=aP S b a:=by
 rw[aP];split
 . split
   . exact ag (bF a) (eP S b (a+1))
   . exact ae _
 . exact ae _
 termination_by S.size - a
theorem fY(S:ByteArray)(b:UInt8->Bool)(a:Nat)(c:a<=S.size):aP S b a<=S.size:=by
 rw[aP];split
 . split
   . exact fY S b (a+1) (by omega)
   . exact c
 . exact c
 termination_by S.size - a
theorem dQ(S:ByteArray)(b:UInt8->Bool)(a:Nat)(h:a<S.size)(c:b S[a]=true):aP S b a=aP S b (a+1):=by rw[aP,ec h,aF c]
theorem eY(S:ByteArray)(b:UInt8->Bool)(a:Nat)(h:a<S.size)(c:b S[a]=false):aP S b a=a:=by rw[aP,ec h,aE (by simp[c])]
theorem iG(S:ByteArray)(b:UInt8->Bool)(a:Nat)(h:¬a<S.size):aP S b a=a:=by rw[aP,gy h]
def mN(l:List UInt8):Nat:=l.foldl (λn c=>n*10+(c.toNat - 48)) 0
def cK:List ByteArray:=
 [bs [102,114,111,109],bs [119,104,101,114,101],bs [109,97,112],bs [106,111,105,110],bs [111,110],bs [103,114,111,117,112],
  bs [111,114,100,101,114],bs [100,111,119,110],bs [108,105,109,105,116],bs [99,114,101,97,116,101],bs [100,114,111,112],bs [108,111,97,100],
  bs [103,114,97,110,116],bs [114,101,118,111,107,101],bs [97,110,100],bs [111,114],bs [110,111,116],bs [105,115],bs [110,117,108,108],
  bs [116,114,117,101],bs [102,97,108,115,101],bs [105,110,116],bs [115,116,114],bs [98,111,111,108],bs [99,111,117,110,116],bs [115,117,109],
  bs [109,105,110],bs [109,97,120]]
def dZ(S:ByteArray)(i:Nat)(h:i<S.size):Nat:=
 let c:=S[i].toNat
 let d:=if h2:i+1<S.size then S[i+1].toNat else 0
 if(c=60/\(d=62\/d=61))\/(c=62/\d=61)then 2
 else if c∈[40,41,44,124,58,61,60,62,43,45,42,47,37]then 1 else 0
theorem xF(S:ByteArray)(a:Nat)(h:a<S.size):dZ S a h<=2/\(dZ S a h=2->a+1<S.size):=by unfold dZ;generalize hd:(if e:a+1<S.size then S[a+1].toNat else 0)=d;simp only;by_cases b:(S[a].toNat=60/\(d=62\/d=61))\/(S[a].toNat=62/\d=61);{rw[aF b];refine⟨ae _,λ_=>?_⟩;apply iA;intro c;rw[gy c]at hd;omega};rw[aE b];split<;>simp
def ez(S:ByteArray)(i:Nat)(h:i<S.size):Tk×Nat:=
 if da S[i]then
  let e:=aP S da i
  let w:=S.extract i e
  if 8<e - i then(.bad,e)else if cK.any (jN w)then(.word w,e)else(.name w,e)
 else if cX S[i]then
  let e:=aP S cX i
  let n:=mN (S.extract i e).data.toList
  if 19<e - i\/9223372036854775807<n then(.bad,e)else(.num n,e)
 else if S[i].toNat=39 then
  let e:=aP S fX (i+1)
  if h2:e<S.size then(if S[e].toNat=39/\e - i - 1<=12 then(.str (S.extract (i+1) e),e+1)else(.bad,i+2))else(.bad,i+2)
 else
  let n:=dZ S i h
  if n=0 then(.bad,i)else(.sign (S.extract i (i+n)),i+n)
def Tk.ends:Tk->Bool
 |.stop=>true|.bad=>true|_=>false
theorem oF(S:ByteArray)(a:Nat)(h:a<S.size)(b:(ez S a h).1.ends=false):a<(ez S a h).2/\(ez S a h).2<=S.size:=by revert b;rw[ez];split;{rename_i c;have f:=dQ S da a h c;have d:=eP S da (a+1);have e:=fY S da a (by omega);simp only;split;{intro b;simp[Tk.ends]at b};split<;>(intro _;simp only;omega)};split;{rename_i c;have f:=dQ S cX a h c;have d:=eP S cX (a+1);have e:=fY S cX a (by omega);simp only;split;{intro b;simp[Tk.ends]at b};intro _;simp only;omega};split;{simp only;split;{split;{intro _;have d:=eP S fX (a+1);simp only;omega};intro b;simp[Tk.ends]at b};intro b;simp[Tk.ends]at b};simp only;split;{intro b;simp[Tk.ends]at b};intro _;have e:=xF S a h;simp only;omega
def dv(S:ByteArray)(i:Nat):List Tok:=
 let j:=aP S bS i
 if h:j<S.size then
  (if _hk:(ez S j h).1.ends then[⟨.bad,j⟩]else⟨(ez S j h).1,j⟩::dv S (ez S j h).2)
 else[⟨.stop,S.size⟩]
 termination_by S.size - i
 decreasing_by
 have h1:=eP S bS i;have h2:=(oF S (aP S bS i) h (by simpa using _hk)).1;omega
theorem AU(S:ByteArray)(a:Nat):dv S a≠[]:=by rw[dv];split;{split<;>simp};simp
inductive Mode where
 | live (t:Tok) (ts:List Tok)
 | dead (e b:Nat)
def Mode.of:List Tok->Mode
 |t::ts=>.live t ts
 |[]=>.live ⟨.stop,0⟩ []
def Mode.next:Mode->Mode
 |.live _ (u::us)=>.live u us
 |m=>m
def Mode.place:Mode->Nat
 |.live t _=>t.pl
 |.dead _ _=>0
def Mode.fail(e b:Nat):Mode->Mode
 |.live _ _=>.dead e b
 |m=>m
def Mode.wrong(e:Nat)(m:Mode):Mode:=m.fail e m.place
def Mode.tk:Mode->Tk
 |.live t _=>t.k
 |.dead _ _=>.bad
def Mode.is(s:ByteArray)(m:Mode):Bool:=
 match m.tk with
 |.word x=>jN x s
 |.sign x=>jN x s
 |_=>false
def Mode.take(s:ByteArray)(m:Mode):Mode:=if m.is s then m.next else m.wrong 2
def Mode.name(m:Mode):(ByteArray×Nat)×Mode:=
 match m.tk with
 |.name x=>((x,m.place),m.next)
 |_=>((ByteArray.empty,0),m.wrong 2)
def Mode.len:Mode->Nat
 |.live _ ts=>ts.length+1
 |.dead _ _=>0
abbrev Ad(b o:Nat):Addr:=⟨b,o,none⟩
abbrev iQ(x0 x1:Int):Obj:=.cells #[.int .i64 x0,.int .i64 x1] 76
abbrev si(x0:Bool)(x1:Int)(x2:ByteArray):Obj:=.cells #[.bool x0,.int .i64 x1,.string x2] 229
abbrev vz(x0 x1:Int)(x2:ByteArray)(x3:Int):Obj:=.cells #[.int .i64 x0,.int .i64 x1,.string x2,.int .i64 x3] 106
abbrev xG(a0:Option Addr)(n0 c0:Nat)(a1:Option Addr)(n1 c1:Nat):Obj:=.cells #[.slice a0 n0 c0,.slice a1 n1 c1] 154
abbrev Pt(x0:Value)(a1:Option Addr)(n1 c1:Nat)(x2:Value):Obj:=.cells #[x0,.slice a1 n1 c1,x2] 145
abbrev Yr(x0:ByteArray)(x1:Int):Obj:=.cells #[.string x0,.int .i64 x1] 34
abbrev obI(x0:ByteArray)(x1:Int):Obj:=.cells #[.string x0,.int .i64 x1] 202
abbrev obJ(x0 x1:Value):Obj:=.cells #[x0,x1] 154
abbrev obK(x0:Int)(x1:ByteArray)(x2:Int)(a3:Option Addr)(n3 c3:Nat):Obj:=.cells #[.int .i64 x0,.string x1,.int .i64 x2,.slice a3 n3 c3] 113
abbrev obL(x0:Int)(x1:Value):Obj:=.cells #[.int .i64 x0,x1] 261
abbrev obM(x0:ByteArray)(x1:Int)(x2:ByteArray)(x3:Int)(a4:Option Addr)(n4 c4:Nat)(x5:Int)(x6:Value):Obj:=.cells #[.string x0,.int .i64 x1,.string x2,.int .i64 x3,.slice a4 n4 c4,.int .i64 x5,x6] 188
abbrev obN(x0 x1:Value)(x2:Int):Obj:=.cells #[x0,x1,.int .i64 x2] 205
abbrev obP(x0:Bool)(x1:Int)(x2:ByteArray)(x3 x4:Int):Obj:=.cells #[.bool x0,.int .i64 x1,.string x2,.int .i64 x3,.int .i64 x4] 298
abbrev obQ(x0:Int)(a1:Option Addr)(n1 c1:Nat):Obj:=.cells #[.int .i64 x0,.slice a1 n1 c1] 174
abbrev obR(a0:Option Addr)(n0 c0:Nat)(x1:Value):Obj:=.cells #[.slice a0 n0 c0,x1] 143
abbrev obS(x0:ByteArray)(x1:Int)(a2:Option Addr)(n2 c2:Nat):Obj:=.cells #[.string x0,.int .i64 x1,.slice a2 n2 c2] 179
abbrev obT(x0 x1:Int)(x2 x3:Value):Obj:=.cells #[.int .i64 x0,.int .i64 x1,x2,x3] 329
abbrev obU(x0:ByteArray)(x1:Int):Obj:=.cells #[.string x0,.int .i64 x1] 110
abbrev obV(x0 x1 x2:Int)(x3 x4:Bool)(x5:Int):Obj:=.cells #[.int .i64 x0,.int .i64 x1,.int .i64 x2,.bool x3,.bool x4,.int .i64 x5] 53
abbrev obW(x0:Value)(x1:Bool):Obj:=.cells #[x0,.bool x1] 320
abbrev obX(x0 x1:ByteArray):Obj:=.cells #[.string x0,.string x1] 198
abbrev obY(x0 x1 x2 x3:Int):Obj:=.cells #[.int .i64 x0,.int .i64 x1,.int .i64 x2,.int .i64 x3] 213
abbrev obZ(x0 x1:Int)(x2:Value):Obj:=.cells #[.int .i64 x0,.int .i64 x1,x2] 325
abbrev abQ(x0:ByteArray)(x1:Int):Obj:=.cells #[.string x0,.int .i64 x1] 133
abbrev Ys(x0 x1:Int)(x2:Bool)(x3:Int)(x4:ByteArray):Obj:=.cells #[.int .i64 x0,.int .i64 x1,.bool x2,.int .i64 x3,.string x4] 124
abbrev agp(x0:Int)(x1:Value):Obj:=.cells #[.int .i64 x0,x1] 193
abbrev abR(x0:ByteArray)(x1:Int)(a2:Option Addr)(n2 c2:Nat):Obj:=.cells #[.string x0,.int .i64 x1,.slice a2 n2 c2] 171
abbrev agq(x0:ByteArray)(x1 x2:Int)(x3:Value):Obj:=.cells #[.string x0,.int .i64 x1,.int .i64 x2,x3] 288
abbrev agr(x0:ByteArray)(x1 x2 x3 x4 x5:Int)(x6:ByteArray):Obj:=.cells #[.string x0,.int .i64 x1,.int .i64 x2,.int .i64 x3,.int .i64 x4,.int .i64 x5,.string x6] 233
abbrev ags(x0:Int)(x1:Value):Obj:=.cells #[.int .i64 x0,x1] 185
abbrev akT(x0:Value)(a1:Option Addr)(n1 c1:Nat)(x2:Int):Obj:=.cells #[x0,.slice a1 n1 c1,.int .i64 x2] 205
inductive Ex where
 | num (n:Nat) | str (s:ByteArray) | bool (b:Bool) | col (s:ByteArray) (a:Nat)
 | neg (a:Nat) (x:Ex) | not (a:Nat) (x:Ex) | j8 (no:Bool) (a:Nat) (x:Ex)
 | two (op:ByteArray) (a:Nat) (x y:Ex)
 | junk
def fL(link:Mode->Ex×Mode)(ops:List ByteArray):Nat->Ex->Mode->Ex×Mode
 |0,x,m=>(x,m)
 |n+1,x,m=>match ops.find? (λo=>m.is o)with
   |some o=>fL link ops n (.two o m.place x (link m.next).1) (link m.next).2
   |none=>(x,m)
structure rN where
 expr:Mode->Ex×Mode
 Dl:Mode->Ex×Mode
 turn:Mode->Ex×Mode
def cq:ByteArray:=bs [40]
def cY:ByteArray:=bs [41]
def oG:ByteArray:=bs [45]
def BN:ByteArray:=bs [116,114,117,101]
def vZ:ByteArray:=bs [102,97,108,115,101]
def y9:ByteArray:=bs [110,111,116]
def vA:ByteArray:=bs [110,117,108,108]
def kIs:ByteArray:=bs [105,115]
def pQ:List ByteArray:=[bs [42],bs [47],bs [37]]
def oH:List ByteArray:=[bs [43],bs [45]]
def iW:List ByteArray:=[bs [61],bs [60,62],bs [60],bs [60,61],bs [62],bs [62,61]]
def tN:List ByteArray:=[bs [97,110,100]]
def vB:List ByteArray:=[bs [111,114]]
def ja(sub:Option rN)(m:Mode):Ex×Mode:=
 if m.is cq then
  match sub with
  |none=>(.junk,m.wrong 3)
  |some l=>((l.expr m.next).1,(l.expr m.next).2.take cY)
 else match m.tk with
  |.num n=>(.num n,m.next)
  |.str s=>(.str s,m.next)
  |.name s=>(.col s m.place,m.next)
  |.word s=>if jN s BN then(.bool true,m.next)else if jN s vZ then(.bool false,m.next)else(.junk,m.wrong 2)
  |_=>(.junk,m.wrong 2)
def gL(sub:Option rN)(m:Mode):Ex×Mode:=
 if m.is oG then
  match sub with
  |none=>(.junk,m.wrong 3)
  |some l=>(.neg m.place (l.turn m.next).1,(l.turn m.next).2)
 else ja sub m
def ll(link:Mode->Ex×Mode)(ops:List ByteArray)(m:Mode):Ex×Mode:=fL link ops (link m).2.len (link m).1 (link m).2
def BO(sub:Option rN):Mode->Ex×Mode:=ll (gL sub) pQ
def gb(sub:Option rN):Mode->Ex×Mode:=ll (BO sub) oH
def kP(sub:Option rN)(m:Mode):Ex×Mode:=
 let r:=gb sub m
 match iW.find? (λo=>r.2.is o)with
 |some o=>(.two o r.2.place r.1 (gb sub r.2.next).1,(gb sub r.2.next).2)
 |none=>
   if r.2.is kIs then
    (.j8 (r.2.next.is y9) r.2.place r.1,(if r.2.next.is y9 then r.2.next.next else r.2.next).take vA)
   else r
def gj(sub:Option rN)(m:Mode):Ex×Mode:=
 if m.is y9 then
  match sub with
  |none=>(.junk,m.wrong 3)
  |some l=>(.not m.place (l.Dl m.next).1,(l.Dl m.next).2)
 else kP sub m
def yP(sub:Option rN):Mode->Ex×Mode:=ll (gj sub) tN
def fE(sub:Option rN):Mode->Ex×Mode:=ll (yP sub) vB
def ao5(sub:Option rN):rN:=⟨fE sub,gj sub,gL sub⟩
def lvl:Nat->Option rN
 |0=>ν
 |d+1=>σ (ao5 (lvl d))
abbrev Nm:=ByteArray×Nat
structure Bs where
 pl:Nat
 kind:Int
 null:Bool
 n:Int
 s:ByteArray
structure wj where
 pl:Nat
 vals:List Bs
structure abS where
 name:Nm
 fn:ByteArray
 pl:Nat
 ov:Nm
 bare:Bool
structure eZ where
 word:ByteArray
 pl:Nat
 table:Nm
 names:List Nm
 exprs:List (Ex×Nat)
 left:Nm
 right:Nm
 eq:Nat
 made:List abS
 down:List Bool
 n:Nat
inductive Bt where
 | create (t:Nm) (cols:List (Nm×Nat))
 | drop (t:Nm)
 | load (t:Nm) (rows:List wj)
 | BP (user table:Nm) (cols:List Nm) (cond:Ex) (first:Nat)
 | ED (user table:Nm)
 | query (fD:List eZ)
def lT:ByteArray:=bs [44]
def me:ByteArray:=bs [124]
def iR:ByteArray:=bs [58]
def wJ:ByteArray:=bs [61]
def akU:ByteArray:=bs [105,110,116]
def akV:ByteArray:=bs [115,116,114]
def WA:ByteArray:=bs [98,111,111,108]
def zj:ByteArray:=bs [111,110]
def dR:ByteArray:=bs [119,104,101,114,101]
def qD:ByteArray:=bs [109,97,112]
def tK:ByteArray:=bs [106,111,105,110]
def pW:ByteArray:=bs [103,114,111,117,112]
def qE:ByteArray:=bs [111,114,100,101,114]
def Ij:ByteArray:=bs [100,111,119,110]
def dJ:ByteArray:=bs [108,105,109,105,116]
def pR:ByteArray:=bs [99,114,101,97,116,101]
def zw:ByteArray:=bs [100,114,111,112]
def BQ:ByteArray:=bs [108,111,97,100]
def xH:ByteArray:=bs [103,114,97,110,116]
def vC:ByteArray:=bs [114,101,118,111,107,101]
def fB:ByteArray:=bs [102,114,111,109]
def iB:ByteArray:=bs [99,111,117,110,116]
def tO:ByteArray:=bs [115,117,109]
def ux:ByteArray:=bs [109,105,110]
def vw:ByteArray:=bs [109,97,120]
def jb{α:Type}(one:Mode->α×Mode):Nat->List α->Mode->List α×Mode
 |0,l,m=>(l,m)
 |n+1,l,m=>if m.is lT then jb one n (l++[(one m.next).1]) (one m.next).2 else(l,m)
def dk{α:Type}(one:Mode->α×Mode)(m:Mode):List α×Mode:=jb one (one m).2.len [(one m).1] (one m).2
def jQ:Mode->List Nm×Mode:=dk Mode.name
def rF(m:Mode):Nat×Mode:=if m.is akU then(0,m.next)else if m.is akV then(1,m.next)else(2,m.take WA)
def uy(m:Mode):(Nm×Nat)×Mode:=((m.name.1,(rF m.name.2).1),(rF m.name.2).2)
def PI:Bs:=⟨0,0,false,0,ByteArray.empty⟩
def jR(m:Mode):Bs×Mode:=
 if m.is oG then
  match m.next.tk with
  |.num n=>(⟨m.place,0,false,-(n:Int),ByteArray.empty⟩,m.next.next)
  |_=>(PI,m.next.wrong 2)
 else match m.tk with
  |.num n=>(⟨m.place,0,false,n,ByteArray.empty⟩,m.next)
  |.str s=>(⟨m.place,1,false,0,s⟩,m.next)
  |_=>
    if m.is BN then(⟨m.place,2,false,1,ByteArray.empty⟩,m.next)
    else if m.is vZ then(⟨m.place,2,false,0,ByteArray.empty⟩,m.next)
    else if m.is vA then(⟨m.place,-1,true,0,ByteArray.empty⟩,m.next)
    else(PI,m.wrong 2)
def kW(m:Mode):wj×Mode:=(⟨m.place,(dk jR (m.take cq)).1⟩,(dk jR (m.take cq)).2.take cY)
def mW:Nat->List wj->Mode->List wj×Mode
 |0,l,m=>(l,m)
 |n+1,l,m=>if m.is cq then mW n (l++[(kW m).1]) (kW m).2 else(l,m)
def mO(m:Mode):(Ex×Nat)×Mode:=(((fE (lvl 8) m).1,m.place),(fE (lvl 8) m).2)
def jX(m:Mode):abS×Mode:=
 let m1:=m.name.2.take wJ
 let known:=m1.is iB||m1.is tO||m1.is ux||m1.is vw
 let fn:=match m1.tk with
  |.word s=>s
  |.sign s=>s
  |_=>ByteArray.empty
 let m2:=(if known then m1.next else m1.wrong 2).take cq
 if m1.is iB&&m2.is cY then(⟨m.name.1,fn,m1.place,(ByteArray.empty,0),true⟩,m2.take cY)
 else(⟨m.name.1,fn,m1.place,m2.name.1,false⟩,m2.name.2.take cY)
def fA(m:Mode):(Nm×(Ex×Nat))×Mode:=((m.name.1,(mO (m.name.2.take wJ)).1),(mO (m.name.2.take wJ)).2)
def eC(m:Mode):(Nm×Bool)×Mode:=((m.name.1,m.name.2.is Ij),if m.name.2.is Ij then m.name.2.next else m.name.2)
def bare(w:ByteArray)(pl:Nat):eZ:=⟨w,pl,(ByteArray.empty,0),[],[],(ByteArray.empty,0),(ByteArray.empty,0),0,[],[],0⟩
def cH(m:Mode):eZ×Mode:=
 if m.is dR then({ bare dR m.place with exprs:=[(mO m.next).1] },(mO m.next).2)
 else if m.is qD then({ bare qD m.place with names:=(dk fA m.next).1.map (·.1),exprs:=(dk fA m.next).1.map (·.2) },(dk fA m.next).2)
 else if m.is tK then
  let t:=m.next.name
  let l:=(t.2.take zj).name
  let r:=(l.2.take wJ).name
  ({ bare tK m.place with table:=t.1,left:=l.1,right:=r.1,eq:=l.2.place },r.2)
 else if m.is pW then
  let keys:List Nm×Mode:=match m.next.tk with
   |.name _=>jQ m.next
   |_=>([],m.next)
  ({ bare pW m.place with names:=keys.1,made:=(dk jX (keys.2.take iR)).1 },(dk jX (keys.2.take iR)).2)
 else if m.is qE then({ bare qE m.place with names:=(dk eC m.next).1.map (·.1),down:=(dk eC m.next).1.map (·.2) },(dk eC m.next).2)
 else
  let m1:=m.take dJ
  match m1.tk with
  |.num n=>({ bare dJ m.place with n:=n },m1.next)
  |_=>(bare dJ m.place,m1.wrong 2)
def cO:Nat->List eZ->Mode->List eZ×Mode
 |0,l,m=>(l,m)
 |n+1,l,m=>if m.is me then cO n (l++[(cH m.next).1]) (cH m.next).2 else(l,m)
def bO(m:Mode):Bt×Mode:=
 if m.is pR then
  let t:=m.next.name
  let c:=dk uy (t.2.take cq)
  (.create t.1 c.1,c.2.take cY)
 else if m.is zw then(.drop m.next.name.1,m.next.name.2)
 else if m.is BQ then
  let t:=m.next.name
  let r:=kW t.2
  let l:=mW r.2.len [r.1] r.2
  (.load t.1 l.1,l.2)
 else if m.is xH then
  let u:=m.next.name
  let t:=(u.2.take zj).name
  let c:=jQ (t.2.take cq)
  let f:=mO ((c.2.take cY).take dR)
  (.BP u.1 t.1 c.1 f.1.1 f.1.2,f.2)
 else if m.is vC then
  let u:=m.next.name
  let t:=(u.2.take zj).name
  (.ED u.1 t.1,t.2)
 else
  let t:=(m.take fB).name
  let l:=cO t.2.len [{ bare fB m.place with table:=t.1 }] t.2
  (.query l.1,l.2)
def fg(S:ByteArray):Bt ⊕ (Nat×Nat):=
 if 300<S.size then .inr (1,0)
 else
  let r:=bO (Mode.of (dv S 0))
  match r.2 with
  |.dead e b=>.inr (e,b)
  |.live ⟨.stop,_⟩ _=>.inl r.1
  |.live t _=>.inr (2,t.pl)
structure aB where
 null:Bool
 n:Int
 s:ByteArray
abbrev bu:=ByteArray×Nat
def gp:aB:=⟨true,0,ByteArray.empty⟩
def pY(n:Int):aB:=⟨false,n,ByteArray.empty⟩
def kE(b:Bool):aB:=pY (if b then 1 else 0)
def Nz(cols:List bu)(s:ByteArray):Option Nat:=cols.findIdx? (λc=>jN c.1 s)
def ao6:ByteArray:=bs [43]
def ao7:ByteArray:=bs [42]
def akW:ByteArray:=bs [47]
def auv:ByteArray:=bs [37]
def kNe:ByteArray:=bs [60,62]
def kLt:ByteArray:=bs [60]
def kLe:ByteArray:=bs [60,61]
def kGt:ByteArray:=bs [62]
def kGe:ByteArray:=bs [62,61]
def pZ(op:ByteArray):Bool:=jN op ao6||jN op oG||jN op ao7||jN op akW||jN op auv
def mh(op:ByteArray):Bool:=jN op wJ||jN op kNe||jN op kLt||jN op kLe||jN op kGt||jN op kGe
def cL(cols:List bu):Ex->Nat ⊕ (Nat×Nat)
 |.num _=>.inl 0
 |.str _=>.inl 1
 |.bool _=>.inl 2
 |.junk=>.inl 0
 |.col s a=>match cols.find? (λc=>jN c.1 s)with
   |some c=>.inl c.2
   |none=>.inr (5,a)
 |.j8 _ _ x=>match cL cols x with
   |.inr e=>.inr e
   |.inl _=>.inl 2
 |.neg a x=>match cL cols x with
   |.inr e=>.inr e
   |.inl k=>if k=0 then .inl 0 else .inr (7,a)
 |.not a x=>match cL cols x with
   |.inr e=>.inr e
   |.inl k=>if k=2 then .inl 2 else .inr (7,a)
 |.two op a x y=>match cL cols x with
   |.inr e=>.inr e
   |.inl k=>match cL cols y with
     |.inr e=>.inr e
     |.inl j=>if k≠j\/(k≠(if pZ op then 0 else 2)/\mh op=false)then .inr (7,a)else .inl (if pZ op then 0 else 2)
def FH:List UInt8->List UInt8->Int
 |[],[]=>0
 |[],_::_=>-1
 |_::_,[]=>1
 |a::x,b::y=>if a=b then FH x y else if a<b then -1 else 1
structure auw where
 cols:List bu
 rows:List (List aB)
structure akX where
 name:ByteArray
 rel:auw
structure akY where
 user:ByteArray
 table:ByteArray
 cols:List ByteArray
 cond:Ex
structure auy where
 tables:List akX
 grants:List akY
 auz:Nat
def cellAt(cols:List bu)(row:List aB)(s:ByteArray):aB:=match Nz cols s with
 |some i=>row.getD i gp
 |none=>gp
def Hid(p:Prop):Prop:=p
theorem au{p:Prop}(h:p):Hid p:=h
theorem Hid.J{p:Prop}(h:Hid p):p:=h
theorem nm{α:Sort _}(a:α):∃b,b=a:=⟨_,rfl⟩
structure aY (K:Nat->Prop)(w w':ω):Prop where
 os:w'.os=w.os
 tape:w'.tape=w.tape
 output:w'.output=w.output
 size:w.heap.size<=w'.heap.size
 block:∀k,K k->w'.heap[k]?=w.heap[k]?
theorem aY.refl(K:Nat->Prop)(a:ω):aY K a a:=⟨rfl,rfl,rfl,ae _,λ_ _=>rfl⟩
theorem aY.trans{K:Nat->Prop}{b c:ω}(h:aY K w b)(k:aY K b c):aY K w c:=
 ⟨k.os.trans h.os,k.tape.trans h.tape,k.output.trans h.output,ag h.size k.size,λd a=>(k.block d a).trans (h.block d a)⟩
theorem aY.mono{K K':Nat->Prop}(h:aY K w i)(hK:∀k,K' k->K k):aY K' w i:=⟨h.os,h.tape,h.output,h.size,λk a=>h.block k (hK k a)⟩
theorem aY.drew{K:Nat->Prop}(h:aY K w i):aY K w i.drew:=⟨h.os,h.tape,h.output,h.size,h.block⟩
theorem aY.alloc{K:Nat->Prop}{w:ω}(h:aY K i w)(hK:∀k,K k->k<w.heap.size)(b:Obj):aY K i (w.alloc b):=
 h.trans ⟨rfl,rfl,rfl,by simp,λk a=>cw _ _ _ (hK k a)⟩
theorem aY.setCell{K:Nat->Prop}(h:aY K w i){p:Addr}(c:¬K p.block)(d:υ):aY K w (i.setCell p d):=
 h.trans ⟨rfl,rfl,rfl,by simp[World.setCell],λk b=>az _ _ _ _ (λa=>c (a ▸ b))⟩
theorem aY.grown{K:Nat->Prop}{c:ω}{row:Option Nat}(h:aY K w i)(a:i.grownBy c row)(hK:∀k,K k->k<i.heap.size)(e:∀k,row=σ k->¬K k):aY K w c:=
 h.trans ⟨a.os,a.tape,a.output,a.size,λk b=>a.block k (hK k b) (λd=>e k d.symm b)⟩
theorem aY.cell{K:Nat->Prop}{a b:ω}(h:aY K a b){p:Addr}(c:K p.block):b.cell? p=a.cell? p:=cy (w:=a) (h.block p.block c)
theorem aY.frozen{K:Nat->Prop}{a b:ω}(h:aY K a b){p:Addr}(c:K p.block):b.frozen? p=a.frozen? p:=dr (w:=a) (h.block p.block c)
theorem aY.below(h:aY (·<x) w i):Below x w i:=⟨h.os,h.tape,h.output,h.size,h.block⟩
theorem aY.Dm(h:Below x w i):aY (·<x) w i:=⟨h.os,h.tape,h.output,h.size,h.block⟩
theorem aY.uz{K:Nat->Prop}(h:w.grownBy i ν)(hK:∀k,K k->k<w.heap.size):aY K w i:=⟨h.os,h.tape,h.output,h.size,λk a=>h.block k (hK k a) (by simp)⟩
theorem grownBy_setCell(b:ω)(a:Addr)(c:υ):b.grownBy (b.setCell a c) (σ a.block):=
 ⟨rfl,rfl,rfl,by simp[World.setCell],λk _ e=>az b a c k (λd=>e (a7 σ d))⟩
theorem fj{a:TypeId}{size:Nat}{c:List υ}(h:w.ownsRow x a size r b c)(g:s<=x):w.ownsRow s a size r b c:=by
 refine⟨h.1,?_⟩;rcases h.2 with f|⟨e,d,cur,j,i,m⟩
 {exact .inl f};exact .inr ⟨e,d,cur,j,ag g i,m⟩
theorem cP{o:Program}(c:ω){V:Array Oper}{rest:List Oper}{u:Oper}{r:Act}{G:Exit->Act->ω->Prop}(M:u.guard=ν)(v w:Operand)(t:TypeId)
 (P:u.op=.call { callee:=.builtin .append,args:=#[v,w],argTypes:=#[t,t] })
 (x:Nat) (g:TypeId) (m:TypeInfo) (E:υ) (size bytes:Nat) (R:o.underlying t=σ (.slice g)) (N:o.info? g=σ m) (hz:m.zero=σ E)
 (F:m.size=size) (Y:m.bytes=bytes) (aa:E.cells.size=size) (oy:0<size)
 (C:υ) (e:Nat) (n:List υ) (Q:r.eval v=C) (z:c.ownsRow x g size C e n)
 (s:Addr) (b y:Nat) (i:List υ) (T:r.eval w=ψ (σ s) b y) (O:i.length=b*size) (H:∀ab B,i[ab]?=σ B->c.cell? (s.add ab)=σ B) (I:∀B∈i,B.oneCell'=true)
 (hm:0<b) (X:e+b<=maxLen) (W:(e+b)*bytes<=140737488355328) (vD:x<=c.heap.size)
 (h:∀a d f,f.ownsRow x g size (ψ (σ ⟨a,0,ν⟩) (e+b) d) (e+b) (n++i)->c.grownBy f C.ownBlock->(C.ownBlock=σ a\/c.heap.size<=a)->wpList o V G rest (r.put u.dst (ψ (σ ⟨a,0,ν⟩) (e+b) d)) f):wpList o V G (u::rest) r c:=by
 have grow:∀D f,f.ownsRow c.heap.size g size D (e+b) (n++i)->c.grownBy f ν->wpList o V G rest (r.put u.dst D) f:=(by intro D f A j;obtain⟨a,d,rfl,Z⟩:∃a d,D=ψ (σ ⟨a,0,ν⟩) (e+b) d/\c.heap.size<=a:=(by rcases A.2 with⟨_,h⟩|⟨a,Bu,_,h,L,_⟩;{omega};exact⟨a,Bu,h,L⟩);exact h a d f (fj A vD) ⟨j.os,j.tape,j.output,j.size,λk hk _=>j.block k hk (by simp)⟩ (.inr Z));have qk:=z;rcases z.2 with⟨rfl,rfl⟩|⟨a,d,cur,rfl,ao,Z,aq,LR,ap,am⟩
 {have al:n=[]:=dC (by simpa using z.1);subst al;exact wpList_append_grows c M v w t P g m E size bytes R N hz F Y aa oy ν 0 0 [] Q (λ_=>⟨rfl,rfl⟩) (by simp) (by intro _ h;cases h) s b y i T O H I (by omega) X W grow};by_cases ac:e+b<=d;{exact wpList_append_fits c M v w t P x g m size R N F a e d n Q qk s b y i T O H I ac (λf A j=>h a d f A j (.inl rfl))};exact wpList_append_grows c M v w t P g m E size bytes R N hz F Y aa oy (σ ⟨a,0,ν⟩) e d n Q (by intro h;cases h) z.1 (by intro an L;cases L;exact qk.cells rfl) s b y i T O H I (by omega) X W grow
theorem pq{W:ω}(h:W=w.alloc u):Below w.heap.size w W:=by rw[h];exact(ah _ _).alloc (ae _) _
theorem xI{p:Obj}(h:i=(w.alloc u).alloc p):Below w.heap.size w i:=by rw[h];exact((ah _ _).alloc (ae _) _).alloc (by simp) _
theorem auB{p q:Obj}(h:i=((w.alloc u).alloc p).alloc q):Below w.heap.size w i:=by rw[h];exact(((ah _ _).alloc (ae _) _).alloc (by simp) _).alloc (by simp;omega) _
def tu:List ByteArray:=pQ++oH++iW++tN++vB
def pI:Ex->Prop
 |.two op _ x y=>op∈tu/\pI x/\pI y
 |.neg _ x=>pI x
 |.not _ x=>pI x
 |.j8 _ _ x=>pI x
 |_=>True
def WfR(S:Mode->Ex×Mode):Prop:=∀m,pI (S m).1
theorem aco{S:Mode->Ex×Mode}(h:WfR S)(g:∀e∈n,e∈tu):∀c a d,pI a->pI (fL S n c a d).1:=by intro c;induction c with|zero=>exactλa d b=>b|succ c i=>intro a d b;unfold fL;split;{rename_i e f;exact i _ _ ⟨g e (jV f),b,h _⟩};exact b
theorem Dz{S:Mode->Ex×Mode}(h:WfR S)(a:∀c∈n,c∈tu):WfR (ll S n):=λb=>aco h a _ _ _ (h b)
def WfL:Option rN->Prop
 |none=>True
 |some l=>WfR l.expr/\WfR l.Dl/\WfR l.turn
section
variable {sub:Option rN} (h:WfL sub)
include h
theorem agT:WfR (ja sub):=λa=>by
 unfold ja;split
 . cases sub with
   |none=>trivial
   |some l=>exact h.1 _
 . split
   . trivial
   . trivial
   . trivial
   . split
     . trivial
     . split<;>trivial
   . trivial
theorem WQ:WfR (gL sub):=λa=>by
 unfold gL;split
 . cases sub with
   |none=>trivial
   |some l=>exact h.2.2 _
 . exact agT h a
theorem DA:WfR (gb sub):=Dz (Dz (WQ h) (λa h=>by simp[tu,h])) (λa h=>by simp[tu,h])
theorem agU:WfR (kP sub):=λb=>by
 unfold kP;simp only;split
 . rename_i a c
   exact⟨(show∀a∈iW,a∈tu fromλa h=>by simp[tu,h]) a (jV c),DA h _,DA h _⟩
 . split
   . exact DA h b
   . exact DA h b
theorem WR:WfR (gj sub):=λa=>by
 unfold gj;split
 . cases sub with
   |none=>trivial
   |some l=>exact h.2.1 _
 . exact agU h a
theorem WS:WfR (fE sub):=Dz (Dz (WR h) (λa h=>by simp[tu,h])) (λa h=>by simp[tu,h])
end
theorem NM:∀a,WfL (lvl a)
 |0=>trivial
 |a+1=>⟨WS (NM a),WR (NM a),WQ (NM a)⟩
theorem WT(a:Mode):pI (mO a).1.1:=WS (NM 8) a
namespace S
def bitsOf(v w:Nat):List Bool:=(List.range w).map v.testBit
theorem bP(b a:Nat):(bitsOf b a).length=a:=by simp[bitsOf]
theorem Qo(a:Nat):bitsOf a 0=[]:=rfl
theorem Qp(a b:Nat):bitsOf a (b+1)=bitsOf a b++[a.testBit b]:=by simp[bitsOf,List.range_succ]
theorem Uf(b c a:Nat)(h:a<c):(bitsOf b c).getD a false=b.testBit a:=by simp[bitsOf,List.getD,h]
structure Lays (bs:List Nat)(l:List Bool):Prop where
 len:bs.length=(l.length+7) / 8
 small:∀b∈bs,b<256
 bit:∀j i,i<8->(bs.getD j 0).testBit i=l.getD (8*j+i) false
structure zK (bs:List Nat)(l:List Bool):Prop where
 len:bs.length=l.length / 8+1
 small:∀b∈bs,b<256
 bit:∀j i,i<8->(bs.getD j 0).testBit i=l.getD (8*j+i) false
theorem Lays.nil:Lays [] []:=⟨rfl,by simp,by simp⟩
theorem xW{bs:List Nat}(h:∀c∈bs,c<256)(b:Nat):bs.getD b 0<256:=by by_cases a:b<bs.length;{simp only[List.getD,List.getElem?_eq_getElem a,Option.getD_some];exact h _ (cF a)};simp[List.getD,List.getElem?_eq_none (Nat.le_of_not_lt a)]
theorem Qq(h:x<256)(a:8<=s):x.testBit s=false:=by
 apply q7;exact ai h (by
  have:2 ^ 8<=2 ^ s:=eE (by omega) a;omega)
theorem Lays.unique{b:List Nat}{l:List Bool}(c:Lays m l)(d:Lays b l):m=b:=by
 apply List.ext_getElem (by rw[c.len,d.len]);intro a j n;apply Nat.eq_of_testBit_eq;intro e;have g:m.getD a 0=m[a]:=by simp[List.getD,j]
 have i:b.getD a 0=b[a]:=by simp[List.getD,n]
 rw[<- g,<- i];by_cases f:e<8;{rw[c.bit a e f,d.bit a e f]};rw[Qq (xW c.small a) (by omega),Qq (xW d.small a) (by omega)]
theorem Lays.acC{bs:List Nat}{l:List Bool}(h:Lays bs l)(a:l.length % 8≠0):zK bs l:=
 ⟨by rw[h.len];omega,h.small,h.bit⟩
theorem Lays.acD{bs:List Nat}{l:List Bool}(h:Lays bs l)(m:l.length % 8=0):zK (bs++[0]) l:=by refine⟨by rw[aw,h.len];simp;omega,?_,?_⟩;{intro d f;rcases bn.1 f with b|b;{exact h.small d b};simp at b;omega};intro a j g;rw[<- h.bit a j g];by_cases c:a<bs.length;{simp[List.getD,List.getElem?_append_left c]};have e:bs.getD a 0=0:=(by simp[List.getD,List.getElem?_eq_none (Nat.le_of_not_lt c)]);rw[e];by_cases i:a=bs.length;{subst i;simp[List.getD]};simp[List.getD,List.getElem?_eq_none (show(bs++[0]).length<=a by simp;omega)]
theorem zK.put{bs:List Nat}{l:List Bool}(h:zK bs l)(b:Bool) :
 Lays (bs.set (l.length / 8) (bs.getD (l.length / 8) 0 ||| b.toNat*2 ^ (l.length % 8))) (l++[b]):=by
 have u:b.toNat*2 ^ (l.length % 8)<256:=(by have:2 ^ (l.length % 8)<=2 ^ 7:=eE (by omega) (by omega);cases b<;>simp<;>omega);have m:∀a,(b.toNat*2 ^ (l.length % 8)).testBit a=(decide (a=l.length % 8)&&b):=(by intro a;cases b;{simp};simp[Nat.testBit_two_pow,eq_comm]);have s:bs.getD (l.length / 8) 0 ||| b.toNat*2 ^ (l.length % 8)<256:=
  Nat.or_lt_two_pow (n:=8) (xW h.small _) u
 refine⟨by rw[nU,h.len];simp;omega,?_,?_⟩;{intro n r;rcases List.mem_or_eq_of_mem_set r with f|f;{exact h.small n f};rw[f];exact s};intro c a g;have v:=h.len;by_cases j:c=l.length / 8;{subst j;have e:(bs.set (l.length / 8) (bs.getD (l.length / 8) 0 ||| b.toNat*2 ^ (l.length % 8))).getD (l.length / 8) 0=bs.getD (l.length / 8) 0 ||| b.toNat*2 ^ (l.length % 8):=(by simp[List.getD,show l.length / 8<bs.length by omega]);rw[e,Nat.testBit_or,h.bit _ a g,m];by_cases i:a=l.length % 8;{have o:8*(l.length / 8)+a=l.length:=(by omega);rw[o];simp[List.getD,i]};simp only[i,decide_false,Bool.false_and,Bool.or_false];by_cases d:8*(l.length / 8)+a<l.length;{simp[List.getD,List.getElem?_append_left d]};simp[List.getD,List.getElem?_eq_none (show l.length<=8*(l.length / 8)+a by omega),List.getElem?_eq_none (show(l++[b]).length<=8*(l.length / 8)+a by simp;omega)]};have e:(bs.set (l.length / 8) (bs.getD (l.length / 8) 0 ||| b.toNat*2 ^ (l.length % 8))).getD c 0=bs.getD c 0:=(by simp[List.getD,List.getElem?_set_ne (Ne.symm j)]);rw[e,h.bit c a g];by_cases d:8*c+a<l.length;{simp[List.getD,List.getElem?_append_left d]};simp[List.getD,List.getElem?_eq_none (show l.length<=8*c+a by omega),List.getElem?_eq_none (show(l++[b]).length<=8*c+a by simp;omega)]
theorem FQ(b a:Nat):(b.testBit a).toNat=b / 2 ^ a % 2:=by rw[Nat.testBit_eq_decide_div_mod_eq];have:=Nat.mod_two_eq_zero_or_one (b / 2 ^ a);rcases this with h|h<;>simp[h]
def DE(s:ByteArray)(j:Nat):Nat:=(s.data.toList.getD j 0).toNat
theorem acF(b:ByteArray)(a:Nat):DE b a<256:=q8 _
theorem NU(a:ByteArray)(b:Nat)(h:a.size<=b):DE a b=0:=by
 have c:a.data.toList.length=a.size:=by rw[cW];rfl
 simp[DE,List.getD,List.getElem?_eq_none (show a.data.toList.length<=b by omega)]
def sM(s:ByteArray)(i:Nat):Bool:=(DE s (i / 8)).testBit (i % 8)
def rd(s:ByteArray)(u:Nat):Nat->Nat
 |0=>0
 |w+1=>rd s u w ||| (if w<64 then(sM s (u+w)).toNat*2 ^ w else 0)
theorem Qr(b:ByteArray)(c a:Nat):rd b c a<2 ^ 64:=by induction a with|zero=>simp[rd]|succ a d=>simp only[rd];apply Nat.or_lt_two_pow d;split;{rename_i h;have e:2 ^ a<=2 ^ 63:=eE (by omega) (by omega);have f:(2:Nat) ^ 64=2*2 ^ 63:=(by decide);cases sM b (c+a)<;>simp<;>omega};simp
theorem acG(c:ByteArray)(d a b:Nat):(rd c d a).testBit b=(decide (b<a)&&decide (b<64)&&sM c (d+b)):=by induction a with|zero=>simp[rd]|succ a i=>simp only[rd,Nat.testBit_or,i];have g:((if a<64 then(sM c (d+a)).toNat*2 ^ a else 0):Nat).testBit b=(decide (a<64)&&decide (b=a)&&sM c (d+a)):=(by split;{rename_i h;cases hs:sM c (d+a);{simp};simp[h,Nat.testBit_two_pow,eq_comm]};rename_i h;simp[h]);rw[g];by_cases e:b=a;{subst e;simp};by_cases f:b<a;{simp[e,f,Nat.lt_succ_of_lt f]};simp[e,f,show¬b<a+1 by omega]
theorem lC(c:ByteArray)(d a:Nat):rd c d a<2 ^ a:=by apply Nat.lt_pow_two_of_testBit;intro b e;rw[acG];simp[show¬b<a by omega]
def At(s:ByteArray)(u:Nat)(l:List Bool):Prop:=∀i,i<l.length->sM s (u+i)=l.getD i false
theorem At.nil(a:ByteArray)(b:Nat):At a b []:=λc h=>by simp at h
theorem At.append{b e:List Bool}:At v x (b++e)↔At v x b/\At v (x+b.length) e:=by constructor;{intro h;refine⟨λa c=>?_,λa c=>?_⟩;{rw[h a (by simp;omega)];simp[List.getD,List.getElem?_append_left c]};rw[gA,h (b.length+a) (by simp;omega)];simp[List.getD,List.getElem?_append_right]};rintro⟨f,g⟩ a c;by_cases d:a<b.length;{rw[f a d];simp[List.getD,List.getElem?_append_left d]};have:=g (a - b.length) (by simp at c;omega);rw[gA,show b.length+(a - b.length)=a by omega]at this;rw[this];simp[List.getD,List.getElem?_append_right (Nat.le_of_not_lt d)]
theorem mj(h:At v x (bitsOf s b))(e:b<=64)(d:s<2 ^ b):rd v x b=s:=by apply Nat.eq_of_testBit_eq;intro c;rw[acG];by_cases a:c<b;{have:=h c (by simpa[bP]using a);rw[this,Uf _ _ _ a];simp[a,show c<64 by omega]};rw[q7 (ai d (eE (by omega) (by omega)))];simp[a]
theorem Lays.at{bs:List Nat}{l:List Bool}(h:Lays bs l)(c:ByteArray)(d:∀b,DE c b=bs.getD b 0):At c 0 l:=by intro a _;simp only[sM,d,Nat.zero_add];rw[h.bit _ _ (by omega),show 8*(a / 8)+a % 8=a by omega]
end S
namespace S
def Ez(bs:List Nat):List υ:=bs.map λ(n:Nat)=>Value.int .u8 (n:Int)
theorem mX(h:Below w.heap.size w i):w.grownBy i ν:=⟨h.os,h.tape,h.output,h.size,λk a _=>h.block k a⟩
def lenOf:υ->Nat|.slice _ m _=>m|_=>0
structure Wr (K:Nat->Prop)(w:ω)(p:Nat)(v:υ)(bs:List Nat)(l:List Bool):Prop where
 lays:Lays bs l
 sl:w.cell? (Ad p 0)=σ v
 used:w.cell? (Ad p 1)=σ (.int .i64 (l.length:Int))
 f0:w.frozen? (Ad p 0)=false
 f1:w.frozen? (Ad p 1)=false
 own:w.ownsRow 0 5 1 v bs.length (Ez bs)
 apart:v.ownBlock≠σ p
 kp:¬K p
 kv:∀g,v.ownBlock=σ g->¬K g
 old:∀k,K k->k<w.heap.size
def Writer(K:Nat->Prop)(w:ω)(p:Nat)(l:List Bool):Prop:=∃v bs,Wr K w p v bs l
theorem Writer.wQ{K:Nat->Prop}{a d:ω}{p:Nat}{l:List Bool}(h:Writer K a p l)(c:a.grownBy d ν):Writer K d p l:=by
 obtain⟨e,bs,h⟩:=h;have g:p<a.heap.size:=bA _ _ h.sl;have b:d.heap[p]?=a.heap[p]?:=c.block p g (by simp);exact⟨e,bs,h.lays,(cy (w:=a) b).trans h.sl,(cy (w:=a) b).trans h.used,(dr (w:=a) b).trans h.f0,(dr (w:=a) b).trans h.f1,
  h.own.kept c (by cases e.ownBlock<;>simp),h.apart,h.kp,h.kv,λk f=>ai (h.old k f) c.size⟩
theorem Writer.alloc{K:Nat->Prop}{w:ω}{p:Nat}{l:List Bool}(h:Writer K w p l)(a:Obj):Writer K (w.alloc a) p l:=h.wQ (dh w a ν)
theorem Writer.drew{K:Nat->Prop}{p:Nat}{l:List Bool}(h:Writer K w p l):Writer K w.drew p l:=h.wQ ⟨rfl,rfl,rfl,ae _,λ_ _ _=>rfl⟩
theorem Writer.old{K:Nat->Prop}{p:Nat}{l:List Bool}(h:Writer K w p l):∀k,K k->k<w.heap.size:=by obtain⟨a,bs,h⟩:=h;exact h.old
theorem Writer.lt{K:Nat->Prop}{p:Nat}{l:List Bool}(h:Writer K w p l):p<w.heap.size:=by obtain⟨a,bs,h⟩:=h;exact bA _ _ h.sl
theorem Writer.also{K K':Nat->Prop}{c d:ω}{p:Nat}{l:List Bool}(h:Writer K c p l)(i:c.grownBy d ν)(hK:∀k,K' k->K k\/(c.heap.size<=k/\k<d.heap.size)):Writer K' d p l:=by have n:=h.lt;obtain⟨j,bs,a⟩:=h.wQ i;obtain⟨r,s,e⟩:=h;have m:d.heap[p]?=c.heap[p]?:=i.block p n (by simp);have o:j=r:=(by have:=((cy (w:=c) (w':=d) (a:=(Ad p 0)) m).trans e.sl).symm.trans a.sl;exact(bk this).symm);subst o;refine⟨j,bs,a.lays,a.sl,a.used,a.f0,a.f1,a.own,a.apart,?_,?_,?_⟩;{intro b;rcases hK p b with h|h;{exact e.kp h};omega};{intro f g b;rcases hK f b with h|h;{exact e.kv f g h};have:=(e.own.lt f g).2;omega};intro k b;rcases hK k b with h|h;{exact a.old k h};exact h.2
theorem Writer.less{K K':Nat->Prop}{p:Nat}{l:List Bool}(h:Writer K w p l)(hK:∀k,K' k->K k):Writer K' w p l:=
 h.also ⟨rfl,rfl,rfl,ae _,λ_ _ _=>rfl⟩ (λk a=>.inl (hK k a))
structure xX (K:Nat->Prop)(w:ω)(p g m cap:Nat)(bs:List Nat)(l:List Bool):Prop where
 lays:zK bs l
 len:m=bs.length
 sl:w.cell? (Ad p 0)=σ (ψ (σ (Ad g 0)) m cap)
 used:w.cell? (Ad p 1)=σ (.int .i64 (l.length:Int))
 f0:w.frozen? (Ad p 0)=false
 f1:w.frozen? (Ad p 1)=false
 own:w.ownsRow 0 5 1 (ψ (σ (Ad g 0)) m cap) m (Ez bs)
 apart:g≠p
 kp:¬K p
 kg:¬K g
 old:∀k,K k->k<w.heap.size
theorem Xb{bs:List Nat}(h:x<bs.length):(Ez bs)[x]?=σ (ι .u8 ((bs.getD x 0:Nat):Int)):=by simp[Ez,List.getD,h]
theorem Wr.slice{K:Nat->Prop}{p:Nat}{bs:List Nat}{l:List Bool}(h:Wr K w p r bs l)(c:0<bs.length) :
 ∃b a,r=ψ (σ (Ad b 0)) bs.length a:=by rcases h.own.2 with⟨_,h⟩|⟨b,a,_,h,_⟩;{omega};exact⟨b,a,h⟩
theorem Wr.room{K:Nat->Prop}{p:Nat}{bs:List Nat}{l:List Bool}(h:Wr K w p r bs l)(e:l.length % 8≠0) :
 ∃a b,r=ψ (σ (Ad a 0)) bs.length b/\xX K w p a bs.length b bs l:=by have c:=h.lays.acC e;obtain⟨a,b,rfl⟩:=h.slice (by rw[c.len];omega);exact⟨a,b,rfl,c,rfl,h.sl,h.used,h.f0,h.f1,h.own,λd=>h.apart (by rw[d];rfl),h.kp,h.kv a rfl,h.old⟩
theorem Wr.grown{K:Nat->Prop}{a b:ω}{p c j:Nat}{g:υ}{bs:List Nat}{l:List Bool}{m:Obj}(h:Wr K a p g bs l)(x:l.length % 8=0)
 (v:b.ownsRow 0 5 1 (ψ (σ (Ad c 0)) (bs.length+1) j) (bs.length+1) (Ez bs++[ι .u8 0])) (s:(a.alloc m).grownBy b g.ownBlock)
 (z:g.ownBlock=σ c\/(a.alloc m).heap.size<=c) :
 aY K a b/\b.cell? (Ad p 0)=σ g/\b.frozen? (Ad p 0)=false/\xX K (b.setCell (Ad p 0) (ψ (σ (Ad c 0)) (bs.length+1) j)) p c (bs.length+1) j (bs++[0]) l:=by
 have u:g.ownBlock=σ c\/a.heap.size<c:=by rcases z with d|d;exact .inl d;exact .inr (by simp at d;omega)
 have hK:aY K a b:=((aY.refl K a).alloc h.old m).grown s (λk f=>by have:=h.old k f;simp;omega) (λk e=>h.kv k e);have A:p<a.heap.size:=bA _ _ h.sl;have i:b.heap[p]?=a.heap[p]?:=(s.block p (by simp;omega) (λe=>h.apart e.symm)).trans (cw _ _ _ A);have o:=(cy (w:=a) (w':=b) (a:=(Ad p 0)) i).trans h.sl;have c1:=(cy (w:=a) (w':=b) (a:=(Ad p 1)) i).trans h.used;have r:=(dr (w:=a) (w':=b) (a:=(Ad p 0)) i).trans h.f0;have w:=(dr (w:=a) (w':=b) (a:=(Ad p 1)) i).trans h.f1;have n:c≠p:=(by rcases u with d|d;{intro e;subst e;exact h.apart d};omega);have y:¬K c:=(by rcases u with d|d;{exact h.kv c d};intro f;have:=h.old c f;omega);refine⟨hK,o,r,h.lays.acD x,by simp,mM _ _ _ o,?_,?_,?_,?_,n,h.kp,y,?_⟩;{rw[jW _ _ _ _ (by simp)];exact c1};{rw[iP];exact r};{rw[iP];exact w};{have e:Ez (bs++[0])=Ez bs++[ι .u8 0]:=(by simp[Ez]);rw[e];exact v.kept (grownBy_setCell _ (Ad p 0) _) (.inr (by simp[Value.ownBlock,n]))};intro k f;have:=hK.size;have:=h.old k f;simp[World.setCell];omega
theorem xX.cell{K:Nat->Prop}{p:Nat}{bs:List Nat}{l:List Bool}(h:xX K w p x s b bs l) :
 w.cell? (Ad x (l.length / 8))=σ (ι .u8 ((bs.getD (l.length / 8) 0:Nat):Int))/\w.frozen? (Ad x (l.length / 8))=false/\l.length / 8<s/\bs.getD (l.length / 8) 0<256:=by have a:=h.lays.len;have c:=h.len;refine⟨?_,h.own.frozenAt _,by omega,xW h.lays.small _⟩;rw[h.own.cellAt _ (by omega),Xb (by omega)]
theorem xX.done{K:Nat->Prop}{p:Nat}{bs:List Nat}{l:List Bool}(h:xX K w p x s b bs l)(a:Bool)(e:Int)
 (n:e=((bs.getD (l.length / 8) 0 ||| a.toNat*2 ^ (l.length % 8):Nat):Int)) (f:Int) (o:f=((l.length+1:Nat):Int)) :
 Writer K ((w.setCell (Ad x (l.length / 8)) (ι .u8 e)).setCell (Ad p 1) (.int .i64 f)).drew p (l++[a]):=by subst n o;have m:=h.len;subst m;obtain⟨r,_⟩:=h.own.stored (l.length / 8) (ι .u8 ((bs.getD (l.length / 8) 0 ||| a.toNat*2 ^ (l.length % 8):Nat):Int));have i:((Ad x (l.length / 8)):Addr)≠(Ad p 1):=λc=>h.apart (a7 Addr.block c);have g:((Ad x (l.length / 8)):Addr)≠(Ad p 0):=λc=>h.apart (a7 Addr.block c);refine⟨ψ (σ (Ad x 0)) bs.length b,bs.set (l.length / 8) (bs.getD (l.length / 8) 0 ||| a.toNat*2 ^ (l.length % 8)),h.lays.put a,?_,?_,?_,?_,?_,?_,h.kp,?_,?_⟩;{show World.cell? (World.setCell _ _ _) _=_;rw[jW _ _ _ _ (by simp),jW _ _ _ _ g];exact h.sl};{show World.cell? (World.setCell _ _ _) _=_;rw[aw];exact mM _ _ _ ((jW _ _ _ _ i).trans h.used)};{show World.frozen? (World.setCell _ _ _) _=_;rw[iP,iP];exact h.f0};{show World.frozen? (World.setCell _ _ _) _=_;rw[iP,iP];exact h.f1};{have c:Ez (bs.set (l.length / 8) (bs.getD (l.length / 8) 0 ||| a.toNat*2 ^ (l.length % 8)))=(Ez bs).set (l.length / 8) (ι .u8 ((bs.getD (l.length / 8) 0 ||| a.toNat*2 ^ (l.length % 8):Nat):Int)):=(by simp only[Ez,List.map_set]);rw[c,nU];exact(r.kept (grownBy_setCell _ (Ad p 1) _) (.inr (by simp[Value.ownBlock,h.apart]))).drew};{simp[Value.ownBlock,h.apart]};{intro u d;simp[Value.ownBlock]at d;subst d;exact h.kg};intro k j;have:=h.old k j;simpa[World.setCell]using this
theorem xX.keeps{K:Nat->Prop}{p:Nat}{bs:List Nat}{l:List Bool}(h:xX K i p x s b bs l)(a:aY K w i)(c:Nat)(d e:υ) :
 aY K w ((i.setCell (Ad x c) d).setCell (Ad p 1) e).drew:=
 ((a.setCell h.kg _).setCell h.kp _).drew
theorem Y0(old a k b:Nat)(o:old<256)(c:a<18446744073709551616) :
 bits BinOp.or IntKind.u8 (old:Int) (bits BinOp.and IntKind.u64 ((a:Int) / 2 ^ min k 64) 1 % 256*2 ^ (b % 8) % 256)=((old ||| (a.testBit k).toNat*2 ^ (b % 8):Nat):Int):=by
 have e:(a:Int) / 2 ^ min k 64=((a / 2 ^ min k 64:Nat):Int):=(by rw[Int.natCast_ediv];congr 1);have d:a / 2 ^ min k 64<18446744073709551616:=dF (Nat.div_le_self _ _) c;have f:bits BinOp.and IntKind.u64 ((a / 2 ^ min k 64:Nat):Int) 1=((a / 2 ^ min k 64 &&& 1:Nat):Int):=u64_and_nat _ 1 d (by omega);have g:a / 2 ^ min k 64 &&& 1=(a.testBit k).toNat:=by
  rw[vm];by_cases n:k<=64;{rw[gx n,FQ]}
  rw[ni (by omega),q7 (ai c (show 18446744073709551616<=2 ^ k from by
   have:(2:Nat) ^ 64<=2 ^ k:=eE (by omega) (by omega);simpa using this))]
  have:a / 2 ^ 64=0:=Nat.div_eq_of_lt (by simpa using c);simp[this]
 have r:(a.testBit k).toNat*2 ^ (b % 8)<256:=(by have:2 ^ (b % 8)<=2 ^ 7:=eE (by omega) (by omega);cases a.testBit k<;>simp<;>omega);have i:((a.testBit k).toNat:Int) % 256*2 ^ (b % 8) % 256=(((a.testBit k).toNat*2 ^ (b % 8):Nat):Int):=(by have j:((a.testBit k).toNat:Int) % 256=((a.testBit k).toNat:Int):=(by cases a.testBit k<;>simp);rw[j];have m:((a.testBit k).toNat:Int)*2 ^ (b % 8)=(((a.testBit k).toNat*2 ^ (b % 8):Nat):Int):=(by rw[Int.natCast_mul,Int.natCast_pow];rfl);rw[m];exact Int.emod_eq_of_lt (by omega) (by omega));rw[e,f,g,i];exact u8_or_nat _ _ o r
end S
namespace S
structure Cl where
 null:Bool
 n:Int
 s:ByteArray
theorem Cl.ext'{a b:Cl}(c:a.null=b.null)(d:a.n=b.n)(e:a.s=b.s):a=b:=by cases a;cases b;simp_all
def cR(n:Int):Prop:=-9223372036854775808<=n/\n<=9223372036854775807
def uJ(n:Int):Nat:=if n<0 then(2*(-n - 1)+1).toNat else(2*n).toNat
def qJ(f:Nat):Int:=if f % 2=1 then -((f / 2:Nat):Int) - 1 else((f / 2:Nat):Int)
theorem zL{a:Int}(h:cR a):uJ a<18446744073709551616:=by unfold uJ;unfold cR at h;split<;>omega
theorem Qs(a:Int):qJ (uJ a)=a:=by unfold qJ uJ;by_cases h:a<0;{rw[aF h,aF (by omega)];omega};rw[aE h,aE (by omega)];omega
theorem Qt(h:x<18446744073709551616):cR (qJ x):=by unfold qJ cR;split<;>omega
theorem ET(a:Nat):a<2 ^ bitLen a:=(bitLen_spec a).1
theorem bitLen_le(a b:Nat)(h:a<2 ^ b):bitLen a<=b:=by by_cases d:a=0;{subst d;simp[bitLen]};have e:=(bitLen_spec a).2 d;rcases mC b (bitLen a)with c|c;{have:2 ^ b<=2 ^ (bitLen a - 1):=eE (by omega) (by omega);omega};exact c
theorem nC(h:x<18446744073709551616):bitLen x<=64:=bitLen_le x 64 (by simpa using h)
theorem Qu(a:Nat)(h:a<18446744073709551616):18446744073709551615 ^^^ a=18446744073709551615 - a:=by have b:=a7 BitVec.toNat (BitVec.allOnes_xor (x:=BitVec.ofNat 64 a));rw[BitVec.toNat_xor,BitVec.toNat_not,BitVec.toNat_allOnes,BitVec.toNat_ofNat,xv (by simpa using h)]at b;simpa using b
theorem acH(a:Int)(h:cR a)(g:a<0) :
 bits BinOp.or IntKind.u64 (IntKind.u64.wrap (bits BinOp.xor IntKind.u64 IntKind.u64.max (IntKind.u64.wrap a)*2)) 1=((uJ a:Nat):Int):=by
 have i:=h;unfold cR at h;have c:IntKind.u64.wrap a=(((a+18446744073709551616).toNat:Nat):Int):=by rw[il];omega
 have d:IntKind.u64.max=((18446744073709551615:Nat):Int):=by decide
 rw[c,d,u64_xor_nat _ _ (by omega) (by omega),Qu _ (by omega),il];have e:((18446744073709551615 - (a+18446744073709551616).toNat:Nat):Int)*2 % 18446744073709551616=((2*(-a - 1).toNat:Nat):Int):=by omega
 rw[e];have b:=u64_or_nat (2*(-a - 1).toNat) 1 (by omega) (by omega);have f:(2*(-a - 1).toNat) ||| 1=2*(-a - 1).toNat+1:=(by have:=nat_join 1 (2*(-a - 1).toNat) 1 (by omega) (by omega);exact this);rw[f]at b;refine b.trans ?_;unfold uJ;rw[aF g];omega
theorem Lc(a:UInt8):IntKind.u64.wrap (a.toNat:Int)=(a.toNat:Int):=by have:=q8 a;rw[il];omega
def qc(n:Int):List Bool:=bitsOf (bitLen (uJ n)+1) 8++bitsOf (uJ n) (bitLen (uJ n))
def jZ(wd:Nat)(bs:List UInt8):List Bool:=bs.flatMap λb=>bitsOf b.toNat wd
def ly(k:Int)(c:Cl):List Bool:=
 if c.null then bitsOf 0 8 else if k=1 then bitsOf (c.s.size+1) 8++jZ 8 c.s.data.toList else qc c.n
theorem lZ(a:Nat)(bs:List UInt8):(jZ a bs).length=bs.length*a:=by induction bs with|nil=>simp[jZ]|cons b c e=>have d:jZ a (b::c)=bitsOf b.toNat a++jZ a c:=rfl;rw[d,aw,e,bP,aX,q6];omega
theorem BW(a:Nat)(bs:List UInt8)(b:UInt8):jZ a (bs++[b])=jZ a bs++bitsOf b.toNat a:=by simp[jZ,List.flatMap_append]
theorem ji(a:ByteArray):a.data.toList.length=a.size:=by rw[cW];rfl
theorem wy(a:Int):(qc a).length=8+bitLen (uJ a):=by simp[qc,bP]
theorem IV(k:Int)(a:Cl)(b:cR a.n):(ly k a).length<=72+8*a.s.size:=by unfold ly;have h:=nC (zL b);split;{simp[bP];omega};split;{simp only[List.length_append,bP,lZ,ji];omega};rw[wy];omega
def rdStr(s:ByteArray)(u wd:Nat):Nat->List UInt8
 |0=>[]
 |n+1=>rdStr s u wd n++[UInt8.ofNat (rd s (u+n*wd) wd % 256)]
theorem ml(c:ByteArray)(d e a:Nat):(rdStr c d e a).length=a:=by induction a with|zero=>rfl|succ a b=>simp[rdStr,b]
def eL(s:ByteArray)(k:Int)(u:Nat):Cl×Nat:=
 if rd s u 8=0 then(⟨true,0,ByteArray.empty⟩,u+8)
 else if k=1 then(⟨false,0,⟨(rdStr s (u+8) 8 (rd s u 8 - 1)).toArray⟩⟩,u+8+(rd s u 8 - 1)*8)
 else(⟨false,qJ (rd s (u+8) (rd s u 8 - 1)),ByteArray.empty⟩,u+8+(rd s u 8 - 1))
def yQ(k:Int)(c:Cl):Prop:=
 cR c.n/\(if c.null then c.n=0/\c.s=ByteArray.empty
  else if k=0 then c.s=ByteArray.empty
  else if k=1 then c.n=0/\c.s.size<=12/\∀b∈c.s.data.toList,32<=b.toNat/\b.toNat<=126/\b.toNat≠39
  else if k=2 then c.s=ByteArray.empty/\(c.n=0\/c.n=1)
  else False)
theorem FR{s:ByteArray}{u wd:Nat}(bs:List UInt8)(j:wd<=64)(f:∀e∈bs,e.toNat<2 ^ wd) :
 ∀a,a<=bs.length->At s u (jZ wd (bs.take a))->rdStr s u wd a=bs.take a:=by intro a;induction a with|zero=>(intro _ _;rfl)|succ a m=>intro i b;have c:bs.take (a+1)=bs.take a++[bs[a]]:=(by rw[ft i]);rw[c,BW,At.append]at b;rw[c,rdStr,m (by omega) b.1];have g:(jZ wd (bs.take a)).length=a*wd:=(by rw[lZ,bV,gx (by omega)]);have d:=b.2;rw[g]at d;rw[mj d j (f _ (cF _))];congr 2;have:=q8 bs[a];rw[xv (by omega)];exact UInt8.ofNat_toNat
theorem NV{s:ByteArray}{k:Int}{u:Nat}{b:Cl}(a:yQ k b)(c:At s u (ly k b)) :
 eL s k u=(b,u+(ly k b).length):=by
 obtain⟨v,a⟩:=a;have o:=zL v;have w:=nC o;unfold ly at c ⊢;by_cases e:b.null=true;{rw[aF e]at c a ⊢;unfold eL;rw[aF (mj c (by omega) (by omega)),bP];refine a7 (λx=>(x,u+8)) (Cl.ext' e.symm ?_ ?_);{exact a.1.symm};exact a.2.symm}
 rw[aE e]at c a ⊢;have i:b.null=false:=by simpa using e
 by_cases f:k=1
 .subst f;rw[aF rfl]at c ⊢;rw[aE (by omega),aF rfl]at a;rw[At.append,bP]at c;have d:=mj c.1 (by omega) (by have:=a.2.1;omega);unfold eL;rw[aE (by rw[d];omega),aF rfl,d];have j:=FR (s:=s) (u:=u+8) (wd:=8) b.s.data.toList (by omega) (λr _=>q8 r) b.s.size (by rw[ji];omega)
   (by rw[aL (by rw[ji];omega)];exact c.2)
  rw[aL (by rw[ji];omega)]at j;rw[show b.s.size+1 - 1=b.s.size from rfl,j];simp only[List.length_append,bP,lZ,ji];refine AQ (Cl.ext' i.symm a.1.symm rfl) (by omega)
 rw[aE f]at c ⊢;unfold qc at c ⊢;rw[At.append,bP]at c;have d:=mj c.1 (by omega) (by omega);unfold eL;rw[aE (by rw[d];omega),aE f,d,show bitLen (uJ b.n)+1 - 1=bitLen (uJ b.n)from rfl,mj c.2 w (ET _),Qs];simp only[List.length_append,bP];have n:b.s=ByteArray.empty:=(by by_cases g:k=0;{rw[aF g]at a;exact a};rw[aE g,aE f]at a;by_cases m:k=2;{rw[aF m]at a;exact a.1};rw[aE m]at a;exact a.elim);refine AQ (Cl.ext' i.symm rfl n.symm) (by omega)
end S
theorem D7(S:ByteArray)(a:Nat)(f:a<=S.size):(dv S a).length<=S.size - a+1:=by
 have d:=eP S bS a;rw[dv];split
 . rename_i h
   split
   . simp
   . rename_i c
     have b:=oF S (aP S bS a) h (by simpa using c);have e:=D7 S (ez S (aP S bS a) h).2 b.2;simp only[List.length_cons];omega
 . simp
 termination_by S.size - a
theorem amP(S:ByteArray)(h:S.size<=300):(Mode.of (dv S 0)).len<=301:=by have a:=D7 S 0 (aI _);cases hk:dv S 0 with|nil=>exact absurd hk (AU S 0)|cons t b=>rw[hk]at a;simp only[List.length_cons]at a;show b.length+1<=301;omega
def at_(l:List Tok)(p:Tok):Mode:=Mode.of (l++[p])
def Mode.ok:Mode->Bool
 |.live _ _=>true
 |.dead _ _=>false
def BM(U:List Tok)(K:List ByteArray):Prop:=∃s pl us,U=⟨.sign s,pl⟩::us/\∀k∈K,jN s k=false
section
variable {U:List Tok} {K:List ByteArray} {l:List Tok} {p t:Tok}
theorem BM.pos(h:BM U K):1<=U.length:=by obtain⟨_,_,_,rfl,_⟩:=h;simp
theorem at_next:(at_ (t::l) p).next=at_ l p:=by
 unfold at_
 cases l<;>rfl
theorem of_next(h:BM U K):(Mode.of ((t::l)++U)).next=Mode.of (l++U):=by obtain⟨_,_,_,rfl,_⟩:=h;cases l<;>rfl
theorem tM(h:BM U K)(c:p.k.ends=true){k:ByteArray}(b:k∈K):(Mode.of (l++U)).is k=(at_ l p).is k:=by obtain⟨f,e,g,rfl,a⟩:=h;cases l with|nil=>(obtain⟨q,d⟩:=p;cases q<;>(try cases c)<;>exact a k b)|cons t l=>rfl
theorem Wc{k:ByteArray}:(Mode.of ((t::l)++U)).is k=(at_ (t::l) p).is k:=rfl
theorem FA{k:ByteArray}(a:p.k.ends=true):(at_ [] p).is k=false:=by obtain⟨k,_⟩:=p;cases k<;>first|rfl|cases a
theorem ug{a:Mode}{k:ByteArray}(h:(a.take k).ok=true):a.is k=true:=by unfold Mode.take at h;cases hi:a.is k with|true=>rfl|false=>rw[hi]at h;cases a<;>simp[Mode.wrong,Mode.fail,Mode.ok]at h
theorem qX{k:ByteArray}(b:p.k.ends=true)(h:(at_ l p).is k=true):∃t a,l=t::a:=by cases l with|nil=>rw[FA b]at h;cases h|cons t a=>exact⟨t,a,rfl⟩
def Bm{α:Type}(U:List Tok)(f:Mode->α×Mode):Prop:=∀l p,p.k.ends=true->(f (at_ l p)).2.ok=true->∃k l',k≠[]/\l=k++l'/\(f (at_ l p)).2=at_ l' p/\f (Mode.of (l++U))=((f (at_ l p)).1,Mode.of (l'++U))
theorem oW(h:BM U K){k:ByteArray}(d:p.k.ends=true)(c:((at_ l p).take k).ok=true):∃t b,l=t::b/\(at_ l p).take k=at_ b p/\(Mode.of (l++U)).take k=Mode.of (b++U):=by have a:=ug c;obtain⟨t,e,rfl⟩:=qX d a;refine⟨t,e,rfl,?_,?_⟩;{unfold Mode.take;rw[a,aF rfl,at_next]};unfold Mode.take;rw[Wc (p:=p),a,aF rfl,of_next h]
theorem nZ(h:BM U K):Bm U Mode.name:=by
 intro l p d a;cases l with
 |nil=>obtain⟨k,e⟩:=p;cases k<;>(try cases d)<;>(simp[at_,Mode.of,Mode.name,Mode.tk,Mode.wrong,Mode.fail,Mode.ok]at a)
 |cons t l=>
  refine⟨[t],l,by simp,rfl,?_⟩;have b:(at_ (t::l) p).tk=t.k:=rfl;have c:(Mode.of ((t::l)++U)).tk=t.k:=rfl;unfold Mode.name at a ⊢;rw[b]at a ⊢;rw[c];cases ht:t.k<;>simp only[ht]at a ⊢<;>first
   | (rw[at_next,of_next h];exact⟨rfl,rfl⟩)
   | (simp[at_,Mode.of,Mode.wrong,Mode.fail,Mode.ok]at a)
theorem find_congr{α:Type}{f g:α->Bool}:∀{l:List α},(∀a∈l,f a=g a)->l.find? f=l.find? g
 |[],_=>rfl
 |a::l,h=>by
   simp only[List.find?_cons,h a (List.mem_cons_self ..)];rw[find_congr (λc b=>h c (cz _ b))]
theorem lJ{e:Mode->Ex×Mode}{f:Ex}{a:Mode}(h:(fL e n x f a).2.ok=true):a.ok=true:=by cases a with|live t g=>rfl|dead d c=>cases x with|zero=>exact h|succ x=>unfold fL at h;rw[show n.find? (λb=>(Mode.dead d c).is b)=ν from gW.mpr (λb _=>by simp[Mode.is,Mode.tk])]at h;exact h
theorem Wf(h:BM U K){i:Mode->Ex×Mode}(A:Bm U i)(v:∀a∈n,a∈K):∀(j:Nat) (l:List Tok) (p:Tok) (g:Ex) (b c:Nat),p.k.ends=true->l.length<=j->l.length+1<=b->l.length+U.length<=c->(fL i n b g (at_ l p)).2.ok=true->
 ∃k o,l=k++o/\(fL i n b g (at_ l p)).2=at_ o p/\fL i n c g (Mode.of (l++U))=((fL i n b g (at_ l p)).1,Mode.of (o++U)):=by intro j;induction j with|zero=>(intro l p g b c e s u r d;obtain rfl:l=[]:=dC (by omega);obtain⟨b,rfl⟩:∃f,b=f+1:=⟨b - 1,by omega⟩;obtain⟨c,rfl⟩:∃f,c=f+1:=⟨c - 1,by have:=h.pos;omega⟩;refine⟨[],[],rfl,?_⟩;unfold fL;rw[find_congr (g:=λa=>(at_ [] p).is a) (λa m=>tM h e (v a m)),show n.find? (λa=>(at_ [] p).is a)=ν from gW.mpr (λa _=>by simp[FA e])];exact⟨rfl,rfl⟩)|succ j B=>intro l p g b c e s u r d;obtain⟨b,rfl⟩:∃f,b=f+1:=⟨b - 1,by omega⟩;obtain⟨c,rfl⟩:∃f,c=f+1:=⟨c - 1,by have:=h.pos;omega⟩;unfold fL at d ⊢;rw[find_congr (f:=λa=>(Mode.of (l++U)).is a) (g:=λa=>(at_ l p).is a) (λa m=>tM h e (v a m))];cases hf:n.find? (λa=>(at_ l p).is a)with|none=>exact⟨[],l,rfl,rfl,rfl⟩|some a=>rw[hf]at d;simp only at d ⊢;obtain⟨t,E,rfl⟩:=qX e (k:=a) (l:=l) (p:=p) (by have:=tJ hf;exact this);rw[at_next]at d ⊢;rw[of_next h];obtain⟨C,F,-,rfl,w,x⟩:=A E p e (lJ d);rw[w]at d ⊢;rw[x];simp only[List.length_cons,List.length_append]at s u r;obtain⟨D,G,rfl,y,z⟩:=B F p _ b c e (by omega) (by omega) (by omega) d;exact⟨t::(C++D),G,by simp,y,z⟩
theorem at_len:(at_ l p).len=l.length+1:=by
 unfold at_
 cases l<;>simp[Mode.of,Mode.len]
theorem Pf(h:BM U K):(Mode.of (l++U)).len=l.length+U.length:=by obtain⟨c,b,d,rfl,a⟩:=h;cases l<;>simp[Mode.of,Mode.len]<;>omega
theorem yJ(h:BM U K){e:Mode->Ex×Mode}(c:Bm U e)(o:∀v∈n,v∈K):Bm U (ll e n):=by intro l p d a;unfold ll at a ⊢;obtain⟨r,b,m,rfl,f,g⟩:=c l p d (lJ a);rw[f]at a ⊢;rw[g];obtain⟨s,u,rfl,i,j⟩:=Wf h c o b.length b p _ _ (Mode.of (b++U)).len d (ae _) (nN at_len.symm) (nN (Pf h).symm) a;exact⟨r++s,u,by simp[m],by simp,i,j⟩
def Wg(U:List Tok)(sub:Option rN):Prop:=∀v,sub=σ v->Bm U v.expr/\Bm U v.Dl/\Bm U v.turn
def qx:List ByteArray:=[cq,oG,kIs,y9]++pQ++oH++iW++tN++vB
theorem sY{a:Mode}:(a.wrong x).ok=false:=by cases a<;>rfl
theorem aa2(h:BM U K)(hK:∀k∈qx,k∈K){sub:Option rN}(r:Wg U sub):Bm U (ja sub):=by
 intro l p b a;have o:cq∈K:=hK _ (by simp[qx]);unfold ja at a ⊢;rw[tM (l:=l) (p:=p) h b o];cases hi:(at_ l p).is cq with
 |true=>rw[hi]at a;simp only[if_true]at a ⊢;obtain⟨t,g,rfl⟩:=qX b hi;cases sub with|none=>simp only at a;rw[sY]at a;cases a|some i=>simp only at a ⊢;rw[at_next]at a ⊢;rw[of_next h];have v:(i.expr (at_ g p)).2.ok=true:=(by have:=ug a;cases hm:(i.expr (at_ g p)).2 with|live=>rfl|dead=>rw[hm]at this;simp[Mode.is,Mode.tk]at this);obtain⟨s,y,-,rfl,c,d⟩:=(r i rfl).1 g p b v;rw[c]at a ⊢;rw[d];obtain⟨w,u,rfl,e,n⟩:=oW h b a;exact⟨t::(s++[w]),u,by simp,by simp,e,by rw[n]⟩
 |false=>
  rw[hi]at a;simp only[Bool.false_eq_true,if_false]at a ⊢;cases l with
  |nil=>obtain⟨k,x⟩:=p;cases k<;>(try cases b)<;>(simp[at_,Mode.of,Mode.tk,Mode.wrong,Mode.fail,Mode.ok]at a)
  |cons t l=>
   refine⟨[t],l,by simp,rfl,?_⟩;have c:(at_ (t::l) p).tk=t.k:=rfl;have d:(Mode.of ((t::l)++U)).tk=t.k:=rfl;have e:(Mode.of ((t::l)++U)).place=(at_ (t::l) p).place:=rfl;rw[c]at a ⊢;rw[d,e];cases ht:t.k<;>simp only[ht]at a ⊢<;>first
    | (rw[at_next,of_next h];exact⟨rfl,rfl⟩)
    | (rw[sY]at a;cases a)
    |skip
   rename_i m;by_cases f:jN m BN=true;{simp only[f,if_true]at a ⊢;rw[at_next,of_next h];exact⟨rfl,rfl⟩};by_cases j:jN m vZ=true;{simp only[f,j,Bool.false_eq_true,if_true,if_false]at a ⊢;rw[at_next,of_next h];exact⟨rfl,rfl⟩};simp only[f,j,Bool.false_eq_true,if_false]at a;rw[sY]at a;cases a
theorem Nd(h:BM U K){k:ByteArray}(o:k∈K){sub:Option rN}{g:rN->Mode->Ex×Mode}(n:∀b,sub=σ b->Bm U (g b)){e:Mode->Ex×Mode}(m:Bm U e)(f:Nat->Ex->Ex) :
 Bm U (λc=>if c.is k then(match sub with
  |none=>(.junk,c.wrong 3)
  |some b=>(f c.place (g b c.next).1,(g b c.next).2))else e c):=by
 intro l p d a;simp only at a ⊢;rw[tM (l:=l) (p:=p) h d o]
 cases hi:(at_ l p).is k with
 |true=>
   rw[hi]at a;simp only[if_true]at a ⊢;obtain⟨t,s,rfl⟩:=qX d hi
   cases sub with
   |none=>simp only at a;rw[sY]at a;cases a
   |some b=>
     simp only at a ⊢;rw[at_next]at a ⊢;rw[of_next h];obtain⟨r,u,-,rfl,i,j⟩:=n b rfl s p d a;exact⟨t::r,u,by simp,by simp,i,by rw[j];rfl⟩
 |false=>
   rw[hi]at a;simp only[Bool.false_eq_true,if_false]at a ⊢;exact m l p d a
theorem Nf(h:BM U K)(hK:∀k∈qx,k∈K){sub:Option rN}(a:Wg U sub):Bm U (gL sub):=by have:=Nd h (hK oG (by simp[qx])) (sub:=sub) (g:=rN.turn) (λc b=>(a c b).2.2) (aa2 h hK a) Ex.neg;exact this
theorem Wh(h:BM U K)(hK:∀k∈qx,k∈K){sub:Option rN}(c:Wg U sub):Bm U (gb sub):=
 yJ h (yJ h (Nf h hK c) (λb a=>hK b (by simp[qx,a]))) (λb a=>hK b (by simp[qx,a]))
theorem aa3(h:BM U K)(hK:∀k∈qx,k∈K){sub:Option rN}(x:Wg U sub):Bm U (kP sub):=by intro l p c a;have r:=Wh h hK x;have A:(gb sub (at_ l p)).2.ok=true:=(by cases g:(gb sub (at_ l p)).2 with|live=>rfl|dead u s=>unfold kP at a;simp only[g]at a;rw[show iW.find? (λb=>(Mode.dead u s).is b)=ν from gW.mpr (λb _=>by simp[Mode.is,Mode.tk])]at a;simp[Mode.is,Mode.tk,g,Mode.ok]at a);obtain⟨i,d,w,rfl,o,v⟩:=r l p c A;unfold kP at a ⊢;simp only[o]at a ⊢;simp only[v];rw[find_congr (f:=λb=>(Mode.of (d++U)).is b) (g:=λb=>(at_ d p).is b) (λb g=>tM h c (hK b (by simp[qx,g])))];cases hf:iW.find? (λb=>(at_ d p).is b)with|some b=>(rw[hf]at a;simp only at a ⊢;obtain⟨t,j,rfl⟩:=qX c (k:=b) (l:=d) (p:=p) (by have:=tJ hf;exact this);rw[at_next]at a ⊢;rw[of_next h];obtain⟨y,m,-,rfl,e,f⟩:=r j p c a;exact⟨i++t::y,m,by simp,by simp,e,by rw[f];rfl⟩)|none=>rw[hf]at a;simp only at a ⊢;rw[tM (l:=d) (p:=p) h c (hK kIs (by simp[qx]))];cases hi:(at_ d p).is kIs with|false=>simp only[Bool.false_eq_true,if_false];exact⟨i,d,w,rfl,o,rfl⟩|true=>rw[hi]at a;simp only[if_true]at a ⊢;obtain⟨t,j,rfl⟩:=qX c hi;rw[at_next]at a ⊢;rw[of_next h,tM (l:=j) (p:=p) h c (hK y9 (by simp[qx]))];cases hn:(at_ j p).is y9 with|false=>(rw[hn]at a;simp only[Bool.false_eq_true,if_false]at a ⊢;obtain⟨n,m,rfl,e,f⟩:=oW h c a;exact⟨i++[t,n],m,by simp,by simp,e,by rw[f];rfl⟩)|true=>rw[hn]at a;simp only[if_true]at a ⊢;obtain⟨B,m,rfl⟩:=qX c hn;rw[at_next]at a ⊢;rw[of_next h];obtain⟨n,z,rfl,e,f⟩:=oW h c a;exact⟨i++[t,B,n],z,by simp,by simp,e,by rw[f];rfl⟩
theorem Ng(h:BM U K)(hK:∀k∈qx,k∈K){sub:Option rN}(a:Wg U sub):Bm U (gj sub):=by have:=Nd h (hK y9 (by simp[qx])) (sub:=sub) (g:=rN.Dl) (λc b=>(a c b).2.1) (aa3 h hK a) Ex.not;exact this
theorem FB(h:BM U K)(hK:∀k∈qx,k∈K){sub:Option rN}(c:Wg U sub):Bm U (fE sub):=
 yJ h (yJ h (Ng h hK c) (λb a=>hK b (by simp[qx,a]))) (λb a=>hK b (by simp[qx,a]))
theorem AJ(h:BM U K)(hK:∀k∈qx,k∈K):∀a,Wg U (lvl a)
 |0=>λc b=>by cases b
 |a+1=>λc b=>by
   cases b
   exact⟨FB h hK (AJ h hK a),Ng h hK (AJ h hK a),Nf h hK (AJ h hK a)⟩
end
theorem Ck{a:Mode}{k:ByteArray}(h:a.is k=true):a.ok=true:=by cases a with|live=>rfl|dead=>cases h
theorem Pg{c:Option rN}{b:Mode}(a:(kP c b).2.ok=true):(gb c b).2.ok=true:=by cases hm:(gb c b).2 with|live=>rfl|dead f e=>unfold kP at a;simp only[hm]at a;rw[show iW.find? (λd=>(Mode.dead f e).is d)=ν from gW.mpr (λd _=>by simp[Mode.is,Mode.tk])]at a;simp[Mode.is,Mode.tk,hm,Mode.ok]at a
section
variable {U:List Tok} {K:List ByteArray} {α β γ:Type}
def tF(f:Mode->α×Mode):Prop:=∀m,(f m).2.ok=true->m.ok=true
theorem sZ:tF Mode.name:=λa h=>by
 cases a with
 |live=>rfl
 |dead=>exact h
theorem Bm.comp{a:Mode->α×Mode}{b:Mode->β×Mode}(n:Bm U a)(o:Bm U b)(s:tF b)(f:α->β->γ):Bm U (λd=>(f (a d).1 (b (a d).2).1,(b (a d).2).2)):=by intro l p e c;obtain⟨k,v,r,rfl,g,i⟩:=n l p e (s _ c);simp only[g]at c ⊢;obtain⟨u,w,-,rfl,j,m⟩:=o v p e c;exact⟨k++u,w,by simp[r],by simp,j,by rw[i,m]⟩
theorem tF.comp{a:Mode->α×Mode}{b:Mode->β×Mode}(e:tF a)(f:tF b)(d:α->β->γ):tF (λc=>(d (a c).1 (b (a c).2).1,(b (a c).2).2)):=λ_ h=>e _ (f _ h)
theorem Ks(h:BM U K)(k:ByteArray):Bm U (λa=>(a.place,a.take k)):=by intro l p e d;obtain⟨t,f,rfl,b,c⟩:=oW h e d;exact⟨[t],f,by simp,rfl,b,by simp only[c];rfl⟩
theorem Kt(k:ByteArray):tF (λa=>(a.place,a.take k)):=λ_ h=>Ck (ug h)
theorem AK(one:Mode->α×Mode):∀b l a,(jb one b l a).2.ok=true->a.ok=true
 |0,_,_,h=>h
 |b+1,l,a,h=>by
   unfold jb at h
   cases hi:a.is lT with
   |true=>exact Ck hi
   |false=>rw[hi]at h;exact h
theorem aa4(h:BM U K)(n:lT∈K){one:Mode->α×Mode}(w:Bm U one):∀(g:Nat) (l:List Tok) (p:Tok) (f:List α) (a b:Nat),p.k.ends=true->l.length<=g->l.length+1<=a->l.length+U.length<=b->(jb one a f (at_ l p)).2.ok=true->
 ∃k i,l=k++i/\(jb one a f (at_ l p)).2=at_ i p/\jb one b f (Mode.of (l++U))=((jb one a f (at_ l p)).1,Mode.of (i++U)):=by intro g;induction g with|zero=>(intro l p f a b d m o j c;obtain rfl:l=[]:=dC (by omega);obtain⟨a,rfl⟩:∃e,a=e+1:=⟨a - 1,by omega⟩;obtain⟨b,rfl⟩:∃e,b=e+1:=⟨b - 1,by have:=h.pos;omega⟩;refine⟨[],[],rfl,?_⟩;unfold jb;rw[tM (p:=p) h d n,FA d];exact⟨rfl,rfl⟩)|succ g x=>intro l p f a b d m o j c;obtain⟨a,rfl⟩:∃e,a=e+1:=⟨a - 1,by omega⟩;obtain⟨b,rfl⟩:∃e,b=e+1:=⟨b - 1,by have:=h.pos;omega⟩;unfold jb at c ⊢;rw[tM (p:=p) h d n];cases hi:(at_ l p).is lT with|false=>exact⟨[],l,rfl,rfl,rfl⟩|true=>rw[hi]at c;simp only[if_true]at c ⊢;obtain⟨t,A,rfl⟩:=qX d hi;rw[at_next]at c ⊢;rw[of_next h];obtain⟨y,B,-,rfl,r,s⟩:=w A p d (AK _ _ _ _ c);rw[r]at c ⊢;rw[s];simp only[List.length_cons,List.length_append]at m o j;obtain⟨z,C,rfl,u,v⟩:=x B p _ a b d (by omega) (by omega) (by omega) c;exact⟨t::(y++z),C,by simp,u,v⟩
theorem Bn(h:BM U K)(m:lT∈K){one:Mode->α×Mode}(c:Bm U one):Bm U (dk one):=by intro l p d a;unfold dk at a ⊢;obtain⟨n,b,j,rfl,e,f⟩:=c l p d (AK _ _ _ _ a);rw[e]at a ⊢;rw[f];obtain⟨o,r,rfl,g,i⟩:=aa4 h m c b.length b p _ _ (Mode.of (b++U)).len d (ae _) (nN at_len.symm) (nN (Pf h).symm) a;exact⟨n++o,r,by simp[j],by simp,g,i⟩
theorem SK{one:Mode->α×Mode}(a:tF one):tF (dk one):=λ_ h=>a _ (AK _ _ _ _ h)
theorem xp(h:BM U K){k:ByteArray}(n:k∈K){d:Mode->α×Mode}(m:Bm U d){e:Mode->β×Mode}(j:Bm U e)(f:Nat->α->β):Bm U (λb=>if b.is k then(f b.place (d b.next).1,(d b.next).2)else e b):=by intro l p c a;simp only at a ⊢;rw[tM (l:=l) (p:=p) h c n];cases hi:(at_ l p).is k with|true=>(rw[hi]at a;simp only[if_true]at a ⊢;obtain⟨t,r,rfl⟩:=qX c hi;rw[at_next]at a ⊢;rw[of_next h];obtain⟨o,s,-,rfl,g,i⟩:=m r p c a;exact⟨t::o,s,by simp,by simp,g,by rw[i];rfl⟩)|false=>rw[hi]at a;simp only[Bool.false_eq_true,if_false]at a ⊢;exact j l p c a
def vW:List ByteArray:=qx++[lT,Ij,cY,iB,tO,ux,vw,dR,qD,tK,pW,qE]
variable (h:BM U K) (hK:∀k∈vW,k∈K)
theorem Nh(h:BM U K)(hK:∀k∈vW,k∈K):Bm U mO:=by intro l p g e;have b:=λk (f:k∈qx)=>hK k (eF _ f);obtain⟨k,i,a,rfl,c,d⟩:=FB h b (AJ h b 8) l p g e;refine⟨k,i,a,rfl,c,?_⟩;unfold mO;rw[d];cases k with|nil=>exact absurd rfl a|cons t k=>rfl
theorem uh{a:Mode->Ex×Mode}(b:tF a)(c:List ByteArray):tF (ll a c):=λ_ h=>b _ (lJ h)
theorem SL:tF mO:=λa h=>by
 refine uh (uh ?_ _) _ a h;intro a h
 cases a with
 |live=>rfl
 |dead c b=>exact uh (uh (λa h=>by cases a with|live=>rfl|dead=>exact h) _) _ _ (Pg h)
theorem SM(h:BM U K)(hK:∀k∈vW,k∈K):Bm U fA:=
 ((nZ h).comp (Ks h wJ) (Kt _) (λa _=>a)).comp (Nh h hK) SL Prod.mk
theorem Ph(h:BM U K)(hK:∀k∈vW,k∈K):Bm U eC:=by intro l p b a;have g:Ij∈K:=hK _ (by simp[vW]);unfold eC at a ⊢;have i:(at_ l p).name.2.ok=true:=(by simp only at a;split at a;{exact Ck ‹_›};exact a);obtain⟨k,c,f,rfl,d,e⟩:=nZ h l p b i;simp only[d,e,tM (p:=p) h b g]at a ⊢;cases hi:(at_ c p).is Ij with|false=>exact⟨k,c,f,rfl,rfl,rfl⟩|true=>obtain⟨t,j,rfl⟩:=qX b hi;simp only[if_true];rw[at_next,of_next h];exact⟨k++[t],j,by simp,by simp,rfl,rfl⟩
theorem aa5(h:BM U K)(hK:∀k∈vW,k∈K):Bm U jX:=by have H:=(nZ h).comp (Ks h wJ) (Kt _) (λB _=>B);intro l p d a;have e:∀k∈[iB,tO,ux,vw,cY],k∈K:=λk e=>hK k (by simp only[vW,List.mem_append,List.mem_cons]at e ⊢;simp only[List.not_mem_nil,or_false]at e;rcases e with f|f|f|f|f<;>simp[f]);have i:∀c:Mode,(if(c.is iB||c.is tO||c.is ux||c.is vw)=true then c.next else c.wrong 2).ok=true->(c.is iB||c.is tO||c.is ux||c.is vw)=true:=(by intro c i;cases hc:(c.is iB||c.is tO||c.is ux||c.is vw)with|true=>rfl|false=>rw[hc]at i;simp[sY]at i);obtain⟨b,y⟩:∃b,b=(at_ l p).name.2.take wJ:=⟨_,rfl⟩;have g:((if(b.is iB||b.is tO||b.is ux||b.is vw)=true then b.next else b.wrong 2).take cq).ok=true:=(by unfold jX at a;simp only[<- y]at a;generalize (if(b.is iB||b.is tO||b.is ux||b.is vw)=true then b.next else b.wrong 2).take cq=q at a ⊢;split at a;{exact Ck (ug a)};exact sZ _ (Ck (ug a)));have m:=i _ (Ck (ug g));have G:b.ok=true:=(by cases b with|live=>rfl|dead=>simp[Mode.is,Mode.tk]at m);subst y;obtain⟨k,z,O,rfl,n,w⟩:=H l p d G;have x:=a7 Prod.fst w;have v:=a7 Prod.snd w;simp only at n x v;unfold jX at a ⊢;simp only[n]at a m g;simp only[n,x,v];simp only[tM (p:=p) h d (e iB (by simp)),tM (p:=p) h d (e tO (by simp)),tM (p:=p) h d (e ux (by simp)),tM (p:=p) h d (e vw (by simp)),m,if_true]at a g ⊢;obtain⟨t,j,rfl⟩:∃t j,z=t::j:=(by cases z with|nil=>simp[FA d]at m|cons t j=>exact⟨t,j,rfl⟩);rw[at_next]at a g ⊢;rw[of_next h];obtain⟨u,s,rfl,C,D⟩:=oW h d g;rw[C]at a ⊢;rw[D,tM (p:=p) h d (e cY (by simp))];cases hc:((at_ (t::u::s) p).is iB&&(at_ s p).is cY)with|true=>(rw[hc]at a;simp only[if_true]at a ⊢;obtain⟨M,A,rfl,o,r⟩:=oW h d a;exact⟨k++[t,u,M],A,by simp,by simp,o,by rw[r];rfl⟩)|false=>rw[hc]at a;simp only[Bool.false_eq_true,if_false]at a ⊢;obtain⟨I,A,-,rfl,o,r⟩:=nZ h s p d (Ck (ug a));rw[o]at a ⊢;rw[r];obtain⟨N,L,rfl,E,F⟩:=oW h d a;exact⟨k++t::u::(I++[N]),L,by simp,by simp,E,by rw[F];rfl⟩
end
section
variable {U:List Tok} {K:List ByteArray}
theorem aa6(h:BM U K)(hK:∀k∈vW,k∈K):Bm U (λb:Mode=>(((match b.tk with|.name _=>jQ b|_=>([],b):List Nm×Mode)).1,((match b.tk with|.name _=>jQ b|_=>([],b):List Nm×Mode)).2.take iR)):=by have m:lT∈K:=hK _ (by simp[vW]);have n:=(Bn h m (nZ h)).comp (Ks h iR) (Kt _) (λd _=>d);intro l p c a;cases l with|nil=>(obtain⟨k,s⟩:=p;cases k<;>(try cases c)<;>(simp[at_,Mode.of,Mode.tk,Mode.take,Mode.is,Mode.wrong,Mode.fail,Mode.ok]at a))|cons t l=>have f:(at_ (t::l) p).tk=t.k:=rfl;have g:(Mode.of ((t::l)++U)).tk=t.k:=rfl;simp only[f,g]at a ⊢;cases ht:t.k with|name u=>simp only[ht]at a;exact n (t::l) p c a|_=>simp only[ht]at a;obtain⟨r,o,e,i,j⟩:=oW h c a;exact⟨[r],o,by simp,e,i,by rw[j]⟩
theorem Wi(h:BM U K):Bm U (λd=>match(d.take dJ).tk with
 |.num n=>({ bare dJ d.place with n:=n },(d.take dJ).next)
 |_=>(bare dJ d.place,(d.take dJ).wrong 2)):=by
 intro l p e a;have m:((at_ l p).take dJ).ok=true:=by
  cases hm:(at_ l p).take dJ with
  |live=>rfl
  |dead=>simp only[hm,Mode.tk]at a;exact a
 obtain⟨t,c,rfl,f,g⟩:=oW h e m;simp only[f]at a ⊢;simp only[g]
 cases c with
 |nil=>
   obtain⟨k,o⟩:=p
   cases k<;>(try cases e)<;>(simp[at_,Mode.of,Mode.tk,Mode.wrong,Mode.fail,Mode.ok]at a)
 |cons b c=>
   refine⟨[t,b],c,by simp,rfl,?_⟩;have i:(at_ (b::c) p).tk=b.k:=rfl;have j:(Mode.of ((b::c)++U)).tk=b.k:=rfl;rw[i]at a ⊢;rw[j]
   cases hu:b.k<;>simp only[hu]at a ⊢<;>first
    | (rw[at_next,of_next h];exact⟨rfl,rfl⟩)
    | (rw[sY]at a;cases a)
theorem Ku(h:BM U K)(hK:∀k∈vW,k∈K):Bm U cH:=by
 have a:∀k∈[dR,qD,tK,pW,qE,lT],k∈K:=λk a=>hK k (by simp only[vW,List.mem_append,List.mem_cons,List.not_mem_nil,or_false]at a ⊢;rcases a with d|d|d|d|d|d<;>simp[d]);have e:=a lT (by simp);have i:=((((nZ h).comp (Ks h zj) (Kt _) (λf _=>f)).comp (nZ h) sZ Prod.mk).comp (Ks h wJ) (Kt _) Prod.mk).comp (nZ h) sZ Prod.mk;have g:=(aa6 h hK).comp (Bn h e (aa5 h hK)) (SK (λm j=>by
  cases m with
  |live=>rfl
  |dead=>simp[jX,Mode.name,Mode.tk,Mode.wrong,Mode.fail,Mode.take,Mode.is,Mode.ok]at j)) Prod.mk
 exact xp h (a dR (by simp)) (Nh h hK) (xp h (a qD (by simp)) (Bn h e (SM h hK)) (xp h (a tK (by simp)) i (xp h (a pW (by simp)) g (xp h (a qE (by simp)) (Bn h e (Ph h hK)) (Wi h)
  (λb l=>{ bare qE b with names:=l.map (·.1),down:=l.map (·.2) })) (λb c=>{ bare pW b with names:=c.1,made:=c.2 })) (λb c=>{ bare tK b with table:=c.1.1.1,left:=c.1.1.2,right:=c.2,eq:=c.1.2 })) (λb l=>{ bare qD b with names:=l.map (·.1),exprs:=l.map (·.2) })) (λb c=>{ bare dR b with exprs:=[c] })
theorem SN(h:BM U K)(hK:∀k∈vW,k∈K):∀(i:Nat) (l:List Tok) (p:Tok) (b:List eZ) (a e:Nat),p.k.ends=true->l.length<=i->l.length+1<=a->l.length+U.length<=e->(cO a b (at_ l p)).2=at_ [] p->
 ∃r,U.length<=r/\cO e b (Mode.of (l++U))=cO r (cO a b (at_ l p)).1 (Mode.of U):=by
 intro i;induction i with
 |zero=>intro l p b a e f n o g c;obtain rfl:l=[]:=dC (by omega);obtain⟨a,rfl⟩:∃d,a=d+1:=⟨a - 1,by omega⟩;exact⟨e,by simpa using g,by simp[cO,FA f]⟩
 |succ i x=>
  intro l p b a e f n o g c;cases l with
  |nil=>obtain⟨a,rfl⟩:∃d,a=d+1:=⟨a - 1,by omega⟩;exact⟨e,by simpa using g,by simp[cO,FA f]⟩
  |cons t l=>
   obtain⟨a,rfl⟩:∃d,a=d+1:=⟨a - 1,by omega⟩;obtain⟨e,rfl⟩:∃d,e=d+1:=⟨e - 1,by have:=h.pos;omega⟩;have st:∀a b d,cO (a+1) b d=if d.is me=true then cO a (b++[(cH d.next).1]) (cH d.next).2 else(b,d):=λ_ _ _=>rfl
   rw[st a b]at c;rw[st e b,st a b,Wc (p:=p)];cases hi:(at_ (t::l) p).is me with
   |false=>rw[hi]at c;exfalso;simp only[Bool.false_eq_true,if_false]at c;have:=a7 Mode.len c;simp[at_len]at this
   |true=>
    rw[hi]at c;simp only[if_true]at c ⊢;rw[at_next]at c ⊢;rw[of_next h];have w:(cH (at_ l p)).2.ok=true:=by
     cases hm:(cH (at_ l p)).2 with
     |live=>rfl
     |dead m j=>
      rw[hm]at c;have v:∀a b,(cO a b (.dead m j)).2=.dead m j:=λa b=>by cases a<;>rfl
      rw[v]at c;cases c
    obtain⟨z,y,-,rfl,s,u⟩:=Ku h hK l p f w;rw[s]at c ⊢;rw[u];simp only[List.length_cons,List.length_append]at n o g;exact x y p _ a e f (by omega) (by omega) (by omega) c
end
theorem xq{A:ByteArray}(h:x<A.size)(a:x<(A++v).size):(A++v)[x]=A[x]:=ByteArray.getElem_append_left h
theorem Gp{A:ByteArray}(h:x<v.size)(a:A.size+x<(A++v).size):(A++v)[A.size+x]=v[x]:=by rw[ByteArray.getElem_append_right (xy _ _)];simp
theorem Bp(a d:ByteArray)(c b:Nat):(a++d).extract (a.size+c) (a.size+b)=d.extract c b:=by rw[ByteArray.extract_append,jr,jr];have:a.extract (a.size+c) (a.size+b)=ByteArray.empty:=(by apply pN;rw[ep];apply nj;have:a.data.size=a.size:=rfl;rw[Array.size_extract];omega);rw[this,ByteArray.empty_append]
theorem xr(a d:ByteArray)(c b:Nat)(h:b<=a.size):(a++d).extract c b=a.extract c b:=by rw[ByteArray.extract_append,show b - a.size=0 from by omega];have:d.extract (c - a.size) 0=ByteArray.empty:=(by apply pN;rw[ep];apply nj;rw[Array.size_extract];omega);rw[this,ByteArray.append_empty]
theorem Wj(c a:ByteArray)(d:UInt8->Bool)(b:Nat):aP (c++a) d (c.size+b)=c.size+aP a d b:=by
 by_cases h:b<a.size
 . have e:c.size+b<(c++a).size:=by rw[bH];omega
   cases hf:d a[b]with
   |true=>rw[dQ _ _ _ e (by rw[Gp h];exact hf),dQ _ _ _ h hf,gA];exact Wj c a d (b+1)
   |false=>rw[eY _ _ _ e (by rw[Gp h];exact hf),eY _ _ _ h hf]
 . rw[iG _ _ _ (by rw[bH];omega),iG _ _ _ h]
 termination_by a.size - b
theorem Kv(a e:ByteArray)(d:UInt8->Bool)(b:Nat)(h:aP a d b<a.size):aP (a++e) d b=aP a d b:=by
 by_cases c:b<a.size
 . have f:b<(a++e).size:=by rw[bH];omega
   cases hf:d a[b]with
   |true=>
     rw[dQ _ _ _ c hf]at h ⊢;rw[dQ _ _ _ f (by rw[xq c];exact hf)];exact Kv a e d (b+1) h
   |false=>rw[eY _ _ _ f (by rw[xq c];exact hf),eY _ _ _ c hf]
 . rw[iG _ _ _ c]at h
   exact absurd h c
 termination_by a.size - b
theorem Kw(a c:ByteArray)(d:UInt8->Bool)(f:0<c.size)(g:d c[0]=false)(b:Nat)(i:b<=a.size):aP (a++c) d b=aP a d b:=by
 by_cases h:b<a.size
 . have e:b<(a++c).size:=by rw[bH];omega
   cases hg:d a[b]with
   |true=>
     rw[dQ _ _ _ h hg,dQ _ _ _ e (by rw[xq h];exact hg)];exact Kw a c d f g (b+1) h
   |false=>rw[eY _ _ _ e (by rw[xq h];exact hg),eY _ _ _ h hg]
 . obtain rfl:b=a.size:=by omega
   rw[iG _ _ _ h,eY _ _ _ (by rw[bH];omega)];have:=Gp (A:=a) f (by rw[bH];omega);simp only[Nat.add_zero]at this;rw[this];exact g
 termination_by a.size - b
theorem Ni(a e:ByteArray)(c:UInt8->Bool)(b:Nat)(g:b<=a.size)(h:¬aP a c b<a.size):aP (a++e) c b=aP (a++e) c a.size:=by
 by_cases d:b<a.size
 . have f:b<(a++e).size:=by rw[bH];omega
   cases hf:c a[b]with
   |true=>
     rw[dQ _ _ _ d hf]at h;rw[dQ _ _ _ f (by rw[xq d];exact hf)];exact Ni a e c (b+1) d h
   |false=>rw[eY _ _ _ d hf]at h;exact absurd d h
 . obtain rfl:b=a.size:=by omega
   rfl
 termination_by a.size - b
theorem anT(a b:ByteArray)(c:Nat)(h:c<b.size)(e:a.size+c<(a++b).size):dZ (a++b) (a.size+c) e=dZ b c h:=by unfold dZ;simp only[Gp h];by_cases d:c+1<b.size;{have f:a.size+c+1<(a++b).size:=(by rw[bH];omega);rw[ec d,ec f];have:=Gp (A:=a) d (by rw[bH];omega);simp only[<- Nat.add_assoc]at this;rw[this]};rw[gy d,gy (by rw[bH];omega)]
def Dc(c:UInt8):Bool:=!da c&&!cX c&&!decide (c.toNat=61)&&!decide (c.toNat=62)
theorem anU(a e:ByteArray)(u:0<e.size)(g:Dc e[0]=true)(b:Nat)(h:b<a.size)(r:b<(a++e).size):dZ (a++e) b r=dZ a b h:=by unfold dZ;simp only[xq h];by_cases f:b+1<a.size;{rw[ec f,ec (by rw[bH];omega),xq f]};obtain m:b+1=a.size:=(by omega);have s:b+1<(a++e).size:=(by rw[bH];omega);rw[gy f,ec s];have:=Gp (A:=a) u (by rw[bH];omega);simp only[Nat.add_zero,<- m]at this;rw[this];unfold Dc at g;simp only[Bool.and_eq_true,Bool.not_eq_true',decide_eq_false_iff_not]at g;obtain⟨⟨-,i⟩,j⟩:=g;generalize e[0].toNat=d at i j;generalize a[b].toNat=c;have n:((c=60/\(d=62\/d=61))\/(c=62/\d=61))=False:=(by simp[i,j]);have o:((c=60/\((0:Nat)=62\/(0:Nat)=61))\/(c=62/\(0:Nat)=61))=False:=(by simp);simp only[n,o]
theorem asr(b a:ByteArray)(c:Nat)(h:c<a.size)(e:b.size+c<(b++a).size):ez (b++a) (b.size+c) e=((ez a c h).1,b.size+(ez a c h).2):=by unfold ez;simp only[Gp h,Wj,Nat.add_assoc,anT b a c h e];split;{rw[Bp,ti];split;{rfl};split<;>rfl};split;{rw[Bp,ti];split<;>rfl};split;{by_cases d:aP a fX (c+1)<a.size;{have f:b.size+aP a fX (c+1)<(b++a).size:=(by rw[bH];omega);rw[ec d,ec f,Gp d,ti,Bp];split<;>rfl};rw[gy d,gy (by rw[bH];omega)]};split;{rfl};rw[Bp]
def Tok.up(d:Nat)(t:Tok):Tok:=⟨t.k,d+t.pl⟩
theorem Kx(c a:ByteArray)(b:Nat):dv (c++a) (c.size+b)=(dv a b).map (Tok.up c.size):=by
 rw[dv,dv.eq_def a b];simp only[Wj];by_cases h:aP a bS b<a.size
 . have e:c.size+aP a bS b<(c++a).size:=by rw[bH];omega
   rw[ec h,ec e,asr c a _ h e];by_cases d:(ez a (aP a bS b) h).1.ends=true
   . rw[ec d,ec d]
     rfl
   . have f:=oF a _ h (by simpa using d)
     have:=eP a bS b;rw[gy d,gy d,Kx c a];rfl
 . rw[gy h,gy (by rw[bH];omega),bH]
   rfl
 termination_by a.size - b
theorem akG(a c:ByteArray)(f:0<c.size)(j:Dc c[0]=true)(b:Nat)(h:b<a.size)(i:b<(a++c).size)(g:(ez a b h).1.ends=false):ez (a++c) b i=ez a b h:=by have e:=j;unfold Dc at e;simp only[Bool.and_eq_true,Bool.not_eq_true',decide_eq_false_iff_not]at e;obtain⟨⟨⟨n,m⟩,-⟩,-⟩:=e;revert g;unfold ez;simp only[xq h,Kw a c da f n b (by omega),Kw a c cX f m b (by omega),anU a c f j b h i];split;{rw[xr _ _ _ _ (fY a da b (by omega))];intro _;rfl};split;{rw[xr _ _ _ _ (fY a cX b (by omega))];intro _;rfl};split;{by_cases d:aP a fX (b+1)<a.size;{rw[ec d,Kv a c fX (b+1) d,ec (by rw[bH];omega),xq d,xr _ _ _ _ (by omega)];intro _;rfl};rw[gy d];intro g;simp[Tk.ends]at g};have:=xF a b h;split;{intro _;rfl};rw[xr _ _ _ _ (by omega)];intro _;rfl
theorem Wm(a c:ByteArray)(i:0<c.size)(j:Dc c[0]=true)(b:Nat)(o:b<=a.size)(l:List Tok)(d:dv a b=l++[⟨.stop,a.size⟩]):dv (a++c) b=l++dv (a++c) a.size:=by
 rw[dv]at d;by_cases h:aP a bS b<a.size
 . simp only[dif_pos h]at d
   by_cases e:(ez a (aP a bS b) h).1.ends=true
   . rw[ec e]at d
     cases l with
     |nil=>simp at d
     |cons m l=>simp at d
   . rw[gy e]at d
     have f:(ez a (aP a bS b) h).1.ends=false:=by simpa using e
     have n:=oF a _ h f;have:=eP a bS b;have g:aP a bS b<(a++c).size:=by rw[bH];omega
     cases l with
     |nil=>exact absurd (List.cons.inj d).2 (AU _ _)
     |cons m l=>
       obtain⟨s,r⟩:=List.cons.inj d;have u:=Wm a c i j (ez a (aP a bS b) h).2 n.2 l r;rw[dv];simp only[Kv a c bS b h];rw[ec g,gy (by rw[akG a c i j _ h g f];exact e),akG a c i j _ h g f,u,s];rfl
 . simp only[dif_neg h]at d
   cases l with
   |cons m l=>simp at d
   |nil=>
     rw[dv,dv.eq_def (a++c) a.size,Ni a c bS b o h];rfl
 termination_by a.size - b
theorem Gq(S:ByteArray):dv (bs [32]++S) 0=(dv S 0).map (Tok.up 1):=by
 have h:=Kx (bs [32]) S 0;rw[show(bs [32]).size+0=1 from rfl]at h;rw[show(bs [32]).size=1 from rfl]at h;rw[<- h,dv.eq_def _ 0,dv.eq_def _ 1];have a:0<(bs [32]++S).size:=by rw[bH];show 0<1+S.size;omega
 rw[dQ _ bS 0 a (by rw[xq (show 0<(bs [32]).size by decide)];rfl)]
theorem td{X Y:ByteArray}{l:List Tok}(a:0<Y.size)(b:Dc Y[0]=true)(h:dv X 0=l++[⟨.stop,X.size⟩]):dv (X++Y) 0=l++(dv Y 0).map (Tok.up X.size):=by rw[Wm X Y a b 0 (aI _) l h];have:=Kx X Y 0;rw[iZ]at this;rw[this]
theorem yK{X:ByteArray}(h:0<X.size)(a:0<(X++v).size):(X++v)[0]=X[0]:=xq h a
theorem Dd(h:0<v.size):0<(v++g).size:=by rw[bH];omega
theorem Ky(S:ByteArray):∀(b a:Nat),S.size - a<=b->∃l c,dv S a=l++[c]/\(∀t∈l,t.k.ends=false)/\(c=⟨.stop,S.size⟩\/c.k=.bad)
 |b,a,hn=>by
   rw[dv];split
   . rename_i h
     split
     . exact⟨[],_,rfl,by simp,.inr rfl⟩
     . rename_i e
       have m:=eP S bS a;have n:=(oF S (aP S bS a) h (by simpa using e)).1;obtain⟨b,rfl⟩:∃j,b=j+1:=⟨b - 1,by omega⟩;obtain⟨l,c,f,g,i⟩:=Ky S b (ez S (aP S bS a) h).2 (by omega);exact⟨_::l,c,by rw[f];rfl,λt d=>by
        rcases bq.1 d with rfl|d
        . simpa using e
        . exact g t d,i⟩
   . exact⟨[],_,rfl,by simp,.inl rfl⟩
def sg(c:UInt8):Tok->Prop:=λt=>t.k=.sign (bs [c])
theorem afp{l:List Tok}{c:Tok}{t:Tok}{f:List Tok}(e:∀t∈l,t.k.ends=false){k a:List Tok}(d:l=k++a)(h:at_ a c=.live t f)(b:t.k=.stop):a=[]/\c.k=.stop:=by cases a with|nil=>cases h;exact⟨rfl,b⟩|cons g a=>cases h;have:=e t (by rw[d];simp);rw[b]at this;cases this
theorem anV{l a:List Tok}{p:Tok}(h:at_ l p=at_ a p):l=a:=by
 have:l++[p]=a++[p]:=by
  unfold at_ at h
  cases l<;>cases a<;>simp_all [Mode.of]
 exact List.append_cancel_right this
theorem Wn(a:Nat)(b:List Tok):BM (⟨.sign me,a⟩::b) vW:=⟨_,_,_,rfl,by decide⟩
theorem afq(a:Nat)(b:List Tok):BM (⟨.sign cY,a⟩::b) qx:=⟨_,_,_,rfl,by decide⟩
theorem xt:∀b c a,(cO b c a).2.ok=true->a.ok=true
 |0,_,_,h=>h
 |b+1,c,a,h=>by
   unfold cO at h
   cases hi:a.is me with
   |true=>exact Ck hi
   |false=>rw[hi]at h;exact h
theorem Nj{U:List Tok}(h:BM U vW):∀(b:Nat) (l:List Tok) (p:Tok) (a:List eZ),p.k.ends=true->(cO b a (at_ l p)).2.ok=true->∃k c,l=k++c/\(cO b a (at_ l p)).2=at_ c p
 |0,l,p,a,_,_=>⟨[],l,rfl,rfl⟩
 |b+1,l,p,a,hp,ha=>by
   have st:cO (b+1) a (at_ l p)=if(at_ l p).is me=true then cO b (a++[(cH (at_ l p).next).1]) (cH (at_ l p).next).2 else(a,at_ l p):=rfl
   rw[st]at ha ⊢
   cases hi:(at_ l p).is me with
   |false=>exact⟨[],l,rfl,rfl⟩
   |true=>
     rw[hi]at ha;simp only[if_true]at ha ⊢;obtain⟨t,i,rfl⟩:=qX hp hi;rw[at_next]at ha ⊢;obtain⟨f,j,-,rfl,d,-⟩:=Ku h (λ_ h=>h) i p hp (xt _ _ _ ha);rw[d]at ha ⊢;obtain⟨g,m,rfl,e⟩:=Nj h b j p _ hp ha;exact⟨t::(f++g),m,by simp,e⟩
def yY(m:Mode):Prop:=m.is pR=false/\m.is zw=false/\m.is BQ=false/\m.is xH=false/\m.is vC=false
theorem yY.cmd{a:Mode}(h:yY a):bO a=(.query (cO (a.take fB).name.2.len [{ bare fB a.place with table:=(a.take fB).name.1 }] (a.take fB).name.2).1,(cO (a.take fB).name.2.len [{ bare fB a.place with table:=(a.take fB).name.1 }] (a.take fB).name.2).2):=by obtain⟨b,c,d,e,f⟩:=h;unfold bO;simp only[b,c,d,e,f,Bool.false_eq_true,if_false]
theorem Kz{q:ByteArray}{o:List eZ}(e:fg q=.inl (.query o)):∃l,dv q 0=l++[⟨.stop,q.size⟩]/\∀(d:Nat) (c:List Tok),∃B,c.length+1<=B/\bO (Mode.of (l++⟨.sign me,d⟩::c))=(.query (cO B o (Mode.of (⟨.sign me,d⟩::c))).1,(cO B o (Mode.of (⟨.sign me,d⟩::c))).2)/\yY (Mode.of (l++⟨.sign me,d⟩::c)):=by
 obtain⟨l,b,C,W,n⟩:=Ky q (q.size - 0) 0 (ae _);have m:b.k.ends=true:=by rcases n with rfl|h;rfl;rw[h];rfl
 unfold fg at e;split at e;{cases e};rw[C,show Mode.of (l++[b])=at_ l b from rfl]at e;simp only at e;obtain⟨t,O,f,Y,a⟩:∃t O,(bO (at_ l b)).2=.live t O/\t.k=.stop/\(bO (at_ l b)).1=.query o:=(by split at e;{cases e};{exact⟨_,_,‹_›,rfl,jt e⟩};cases e);have V:=nZ (Wn 0 []);have T:=(Ks (Wn 0 []) fB).comp V sZ (λ_ x=>x);have g:yY (at_ l b):=(by unfold bO at a;by_cases r:(at_ l b).is pR=true;{simp only[r,if_true]at a;cases a};simp only[r]at a;by_cases v:(at_ l b).is zw=true;{simp only[v,if_true]at a;cases a};simp only[v]at a;by_cases w:(at_ l b).is BQ=true;{simp only[w,if_true]at a;cases a};simp only[w]at a;by_cases u:(at_ l b).is xH=true;{simp only[u,if_true]at a;cases a};simp only[u]at a;by_cases s:(at_ l b).is vC=true;{simp only[s,if_true]at a;cases a};simp only[s]at a;exact⟨by simpa using r,by simpa using v,by simpa using w,by simpa using u,by simpa using s⟩);rw[g.cmd]at f a;have M:=xt _ _ _ (by rw[f];rfl);obtain⟨A,Z,P,rfl,y,-⟩:=T l b m M;simp only at y;rw[y]at f a;obtain⟨j,l2,rfl,D⟩:=Nj (Wn 0 []) _ Z b _ m (by rw[f];rfl);rw[D]at f;obtain⟨rfl,I⟩:=afp W (k:=A++j) (by simp) f Y;have n:b=⟨.stop,q.size⟩:=by rcases n with h|h;exact h;rw[h]at I;cases I
 subst n;refine⟨_,C,λd c=>?_⟩;obtain⟨k3,l3,-,e3,E,z⟩:=(Ks (Wn d c) fB).comp (nZ (Wn d c)) sZ (λ_ x=>x) _ _ m M;simp only at E z;have X:=anV (E.symm.trans y);subst X;have F:=a7 Prod.fst z;have G:=a7 Prod.snd z;simp only at F G;obtain⟨N,L,rfl⟩:∃t k,A=t::k:=(by cases A with|nil=>exact absurd rfl P|cons t k=>exact⟨t,k,rfl⟩);have i:=λk=>Wc (U:=⟨.sign me,d⟩::c) (t:=N) (l:=L++(j++[])) (p:=⟨.stop,q.size⟩) (k:=k);have H:yY (Mode.of (N::L++(j++[])++⟨.sign me,d⟩::c)):=⟨(i _).trans g.1,(i _).trans g.2.1,(i _).trans g.2.2.1,(i _).trans g.2.2.2.1,(i _).trans g.2.2.2.2⟩;rw[H.cmd,F,G];obtain⟨aa,Q,R⟩:=SN (Wn d c) (λ_ h=>h) _ (j++[]) ⟨.stop,q.size⟩ _ _ (Mode.of ((j++[])++⟨.sign me,d⟩::c)).len m (ae _) (nN at_len.symm) (nN (Pf (Wn d c)).symm) D;refine⟨aa,Q,?_,H⟩;rw[<- Bt.query.inj a,<- R];rfl
