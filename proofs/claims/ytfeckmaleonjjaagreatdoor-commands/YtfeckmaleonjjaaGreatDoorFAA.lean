import Derived.WalkLawsBesides
import Derived.Test.YtfeckmaleonjjaaGreatDoorFZZ
set_option maxHeartbeats 0
set_option maxRecDepth 100000
namespace Go.Proofs.YtfeckmaleonjjaaGreatDoor
open Go.World renaming grownBy→Ψ
open Go.World renaming ownsRow→Φ
open Go.Value renaming ownBlock→Ω
open List renaming length→Λ
open Go.RowKit
open Option renaming some→σ,none→ν
open Go renaming World→ω,Value→υ
open Go.Value renaming int→ι,slice→ψ
variable{p:Nat->Prop}{x:Δ Bool}{v:Δ Nat}{n u:Nat}{l:Δ Γ}{i:Γ}{t:ω}{r:υ}{s c:Obj}{k:Prop}{b:Int}
def bs(l:Δ UInt8):Γ:=⟨⟨l⟩⟩
def dK(n:Int):Prop:=-9223372036854775808<=n/\n<=9223372036854775807
def ct(x y:Γ):Bool:=decide (x.data=y.data)
theorem cD{b:Γ}:ct i b=true↔i=b:=by unfold ct;rw[dY];exact⟨λh=>by cases i;cases b;simp at h;rw[h],λh=>by rw[h]⟩
inductive Tk where
 | stop | bad
 | cU (s:Γ) | aI (s:Γ) | num (n:Nat) | str (s:Γ) | sign (s:Γ)
structure Tok where
 k:Tk
 pl:Nat
def jO(n:Nat):Bool:=decide (97<=n)&&decide (n<=122)
def lK(n:Nat):Bool:=decide (48<=n)&&decide (n<=57)
def dP(c:UInt8):Bool:=jO c.toNat
def dV(c:UInt8):Bool:=lK c.toNat
def gM(c:UInt8):Bool:=decide (32<=c.toNat)&&decide (c.toNat<=126)&&!decide (c.toNat=39)
def dh(c:UInt8):Bool:=decide (c.toNat=32)
def aZ(S:Γ)(f:UInt8->Bool)(i:Nat):Nat:=
 if h:i<S.size then(if f S[i]then aZ S f (i+1)else i)else i
 termination_by S.size - i
theorem gT(S:Γ)(c:UInt8->Bool)(b:Nat):b<=aZ S c b:=by
 rw[aZ];split
 . split
   . exact ay (dt b) (gT S c (b+1))
   . exact ae _
 . exact ae _
 termination_by S.size - b
theorem iq(S:Γ)(c:UInt8->Bool)(b:Nat)(d:b<=S.size):aZ S c b<=S.size:=by
 rw[aZ];split
 . split
   . exact iq S c (b+1) (by omega)
   . exact d
 . exact d
 termination_by S.size - b
theorem jP(S:Γ)(c:UInt8->Bool)(b:Nat)(h:b<S.size)(d:c S[b]=true):aZ S c b=aZ S c (b+1):=by rw[aZ,kT h,aN d]
theorem nV(S:Γ)(c:UInt8->Bool)(b:Nat)(h:b<S.size)(d:c S[b]=false):aZ S c b=b:=by rw[aZ,kT h,aH (by simp[d])]
theorem oU(S:Γ)(c:UInt8->Bool)(b:Nat)(h:¬b<S.size):aZ S c b=b:=by rw[aZ,pD h]
def oK(l:Δ UInt8):Nat:=l.foldl (λn c=>n*10+(c.toNat - 48)) 0
def cY:Δ Γ:=
 [bs [102,114,111,109],bs [119,104,101,114,101],bs [109,97,112],bs [106,111,105,110],bs [111,110],bs [103,114,111,117,112],
  bs [111,114,100,101,114],bs [100,111,119,110],bs [108,105,109,105,116],bs [99,114,101,97,116,101],bs [100,114,111,112],bs [108,111,97,100],
  bs [103,114,97,110,116],bs [114,101,118,111,107,101],bs [97,110,100],bs [111,114],bs [110,111,116],bs [105,115],bs [110,117,108,108],
  bs [116,114,117,101],bs [102,97,108,115,101],bs [105,110,116],bs [115,116,114],bs [98,111,111,108],bs [99,111,117,110,116],bs [115,117,109],
  bs [109,105,110],bs [109,97,120]]
def fO(S:Γ)(i:Nat)(h:i<S.size):Nat:=
 let c:=S[i].toNat
 let d:=if h2:i+1<S.size then S[i+1].toNat else 0
 if(c=60/\(d=62\/d=61))\/(c=62/\d=61)then 2
 else if c∈[40,41,44,124,58,61,60,62,43,45,42,47,37]then 1 else 0
theorem Cj(S:Γ)(b:Nat)(h:b<S.size):fO S b h<=2/\(fO S b h=2->b+1<S.size):=by unfold fO;generalize hd:(if f:b+1<S.size then S[b+1].toNat else 0)=d;simp only;by_cases c:(S[b].toNat=60/\(d=62\/d=61))\/(S[b].toNat=62/\d=61);{rw[aN c];refine⟨ae _,λ_=>?_⟩;apply fF;intro e;rw[pD e]at hd;omega};rw[aH c];split<;>simp
def iu(S:Γ)(i:Nat)(h:i<S.size):Tk×Nat:=
 if dP S[i]then
  let e:=aZ S dP i
  let w:=S.extract i e
  if 8<e - i then(.bad,e)else if cY.any (ct w)then(.cU w,e)else(.aI w,e)
 else if dV S[i]then
  let e:=aZ S dV i
  let n:=oK (S.extract i e).data.toList
  if 19<e - i\/9223372036854775807<n then(.bad,e)else(.num n,e)
 else if S[i].toNat=39 then
  let e:=aZ S gM (i+1)
  if h2:e<S.size then(if S[e].toNat=39/\e - i - 1<=12 then(.str (S.extract (i+1) e),e+1)else(.bad,i+2))else(.bad,i+2)
 else
  let n:=fO S i h
  if n=0 then(.bad,i)else(.sign (S.extract i (i+n)),i+n)
def Tk.ends:Tk->Bool
 |.stop=>true|.bad=>true|_=>false
theorem uK(S:Γ)(b:Nat)(h:b<S.size)(c:(iu S b h).1.ends=false):b<(iu S b h).2/\(iu S b h).2<=S.size:=by revert c;rw[iu];split;{rename_i d;have i:=jP S dP b h d;have e:=gT S dP (b+1);have f:=iq S dP b (by omega);simp only;split;{intro c;simp[Tk.ends]at c};split<;>(intro _;simp only;omega)};split;{rename_i d;have i:=jP S dV b h d;have e:=gT S dV (b+1);have f:=iq S dV b (by omega);simp only;split;{intro c;simp[Tk.ends]at c};intro _;simp only;omega};split;{simp only;split;{split;{intro _;have e:=gT S gM (b+1);simp only;omega};intro c;simp[Tk.ends]at c};intro c;simp[Tk.ends]at c};simp only;split;{intro c;simp[Tk.ends]at c};intro _;have f:=Cj S b h;simp only;omega
def iw(S:Γ)(i:Nat):Δ Tok:=
 let j:=aZ S dh i
 if h:j<S.size then
  (if _hk:(iu S j h).1.ends then[⟨.bad,j⟩]else⟨(iu S j h).1,j⟩::iw S (iu S j h).2)
 else[⟨.stop,S.size⟩]
 termination_by S.size - i
 decreasing_by
 have h1:=gT S dh i;have h2:=(uK S (aZ S dh i) h (by simpa using _hk)).1;omega
theorem Dt(S:Γ)(b:Nat):iw S b≠[]:=by rw[iw];split;{split<;>simp};simp
inductive aD where
 | live (t:Tok) (ts:Δ Tok)
 | dead (e b:Nat)
def aD.of:Δ Tok->aD
 |t::ts=>.live t ts
 |[]=>.live ⟨.stop,0⟩ []
def aD.aK:aD->aD
 |.live _ (u::us)=>.live u us
 |m=>m
def aD.cE:aD->Nat
 |.live t _=>t.pl
 |.dead _ _=>0
def aD.fail(e b:Nat):aD->aD
 |.live _ _=>.dead e b
 |m=>m
def aD.cQ(e:Nat)(m:aD):aD:=m.fail e m.cE
def aD.tk:aD->Tk
 |.live t _=>t.k
 |.dead _ _=>.bad
def aD.is(s:Γ)(m:aD):Bool:=
 match m.tk with
 |.cU x=>ct x s
 |.sign x=>ct x s
 |_=>false
def aD.take(s:Γ)(m:aD):aD:=if m.is s then m.aK else m.cQ 2
def aD.aI(m:aD):(Γ×Nat)×aD:=
 match m.tk with
 |.aI x=>((x,m.cE),m.aK)
 |_=>((ByteArray.empty,0),m.cQ 2)
def aD.len:aD->Nat
 |.live _ ts=>Λ ts+1
 |.dead _ _=>0
abbrev Ad(b o:Nat):Addr:=⟨b,o,none⟩
abbrev nP(x0 x1:Int):Obj:=.cells #[.int .i64 x0,.int .i64 x1] 77
abbrev zc(x0:Bool)(x1:Int)(x2:Γ):Obj:=.cells #[.bool x0,.int .i64 x1,.string x2] 263
abbrev vF(x0 x1:Int)(x2:Γ)(x3:Int):Obj:=.cells #[.int .i64 x0,.int .i64 x1,.string x2,.int .i64 x3] 113
abbrev obF(x0:Value)(a1:Option Addr)(n1 c1:Nat)(x2:Value):Obj:=.cells #[x0,.slice a1 n1 c1,x2] 176
abbrev obG(x0:Γ)(x1:Int):Obj:=.cells #[.string x0,.int .i64 x1] 34
abbrev obI(x0:Γ)(x1:Int):Obj:=.cells #[.string x0,.int .i64 x1] 241
abbrev obM(x0:Γ)(x1:Int)(x2:Γ)(x3:Int)(a4:Option Addr)(n4 c4:Nat)(x5:Int)(x6:Value):Obj:=.cells #[.string x0,.int .i64 x1,.string x2,.int .i64 x3,.slice a4 n4 c4,.int .i64 x5,x6] 233
abbrev obQ(x0:Int)(a1:Option Addr)(n1 c1:Nat):Obj:=.cells #[.int .i64 x0,.slice a1 n1 c1] 219
abbrev obR(a0:Option Addr)(n0 c0:Nat)(x1:Value):Obj:=.cells #[.slice a0 n0 c0,x1] 174
abbrev obS(x0:Γ)(x1:Int)(a2:Option Addr)(n2 c2:Nat):Obj:=.cells #[.string x0,.int .i64 x1,.slice a2 n2 c2] 224
abbrev obT(x0 x1:Int)(x2 x3:Value):Obj:=.cells #[.int .i64 x0,.int .i64 x1,x2,x3] 369
abbrev obU(x0:Γ)(x1:Int):Obj:=.cells #[.string x0,.int .i64 x1] 117
abbrev obW(x0:Value)(x1:Bool):Obj:=.cells #[x0,.bool x1] 389
abbrev obX(x0 x1:Γ):Obj:=.cells #[.string x0,.string x1] 239
abbrev obZ(x0 x1:Int)(x2:Value):Obj:=.cells #[.int .i64 x0,.int .i64 x1,x2] 387
abbrev aaI(x0:Γ)(x1:Int):Obj:=.cells #[.string x0,.int .i64 x1] 164
abbrev aaJ(x0:Γ)(x1:Int)(a2:Option Addr)(n2 c2:Nat):Obj:=.cells #[.string x0,.int .i64 x1,.slice a2 n2 c2] 216
abbrev ae2(x0:Γ)(x1 x2 x3 x4 x5:Int)(x6:Γ):Obj:=.cells #[.string x0,.int .i64 x1,.int .i64 x2,.int .i64 x3,.int .i64 x4,.int .i64 x5,.string x6] 207
abbrev ae3(x0:Int)(x1:Value):Obj:=.cells #[.int .i64 x0,x1] 230
theorem l9{d:Type}{b:Δ d}(h:n<Λ b):∃c,b[n]?=σ c:=⟨_,af h⟩
inductive Ex where
 | num (n:Nat) | str (s:Γ) | bool (b:Bool) | col (s:Γ) (a:Nat)
 | neg (a:Nat) (x:Ex) | not (a:Nat) (x:Ex) | lA (no:Bool) (a:Nat) (x:Ex)
 | two (op:Γ) (a:Nat) (x y:Ex)
 | junk
def nh(link:aD->Ex×aD)(ops:Δ Γ):Nat->Ex->aD->Ex×aD
 |0,x,m=>(x,m)
 |n+1,x,m=>match ops.find? (λo=>m.is o)with
   |some o=>nh link ops n (.two o m.cE x (link m.aK).1) (link m.aK).2
   |none=>(x,m)
structure BJ where
 expr:aD->Ex×aD
 MY:aD->Ex×aD
 turn:aD->Ex×aD
def du:Γ:=bs [40]
def fK:Γ:=bs [41]
def pN:Γ:=bs [45]
def FN:Γ:=bs [116,114,117,101]
def zP:Γ:=bs [102,97,108,115,101]
def Ck:Γ:=bs [110,111,116]
def tZ:Γ:=bs [110,117,108,108]
def kIs:Γ:=bs [105,115]
def vG:Δ Γ:=[bs [42],bs [47],bs [37]]
def uL:Δ Γ:=[bs [43],bs [45]]
def mF:Δ Γ:=[bs [61],bs [60,62],bs [60],bs [60,61],bs [62],bs [62,61]]
def A2:Δ Γ:=[bs [97,110,100]]
def A4:Δ Γ:=[bs [111,114]]
def kO(sub:Option BJ)(m:aD):Ex×aD:=
 if m.is du then
  match sub with
  |none=>(.junk,m.cQ 3)
  |some l=>((l.expr m.aK).1,(l.expr m.aK).2.take fK)
 else match m.tk with
  |.num n=>(.num n,m.aK)
  |.str s=>(.str s,m.aK)
  |.aI s=>(.col s m.cE,m.aK)
  |.cU s=>if ct s FN then(.bool true,m.aK)else if ct s zP then(.bool false,m.aK)else(.junk,m.cQ 2)
  |_=>(.junk,m.cQ 2)
def jL(sub:Option BJ)(m:aD):Ex×aD:=
 if m.is pN then
  match sub with
  |none=>(.junk,m.cQ 3)
  |some l=>(.neg m.cE (l.turn m.aK).1,(l.turn m.aK).2)
 else kO sub m
def uM(link:aD->Ex×aD)(ops:Δ Γ)(m:aD):Ex×aD:=nh link ops (link m).2.len (link m).1 (link m).2
def BK(sub:Option BJ):aD->Ex×aD:=uM (jL sub) vG
def gU(sub:Option BJ):aD->Ex×aD:=uM (BK sub) uL
def pH(sub:Option BJ)(m:aD):Ex×aD:=
 let r:=gU sub m
 match mF.find? (λo=>r.2.is o)with
 |some o=>(.two o r.2.cE r.1 (gU sub r.2.aK).1,(gU sub r.2.aK).2)
 |none=>
   if r.2.is kIs then
    (.lA (r.2.aK.is Ck) r.2.cE r.1,(if r.2.aK.is Ck then r.2.aK.aK else r.2.aK).take tZ)
   else r
def jQ(sub:Option BJ)(m:aD):Ex×aD:=
 if m.is Ck then
  match sub with
  |none=>(.junk,m.cQ 3)
  |some l=>(.not m.cE (l.MY m.aK).1,(l.MY m.aK).2)
 else pH sub m
def BL(sub:Option BJ):aD->Ex×aD:=uM (jQ sub) A2
def ny(sub:Option BJ):aD->Ex×aD:=uM (BL sub) A4
def am6(sub:Option BJ):BJ:=⟨ny sub,jQ sub,jL sub⟩
def lvl:Nat->Option BJ
 |0=>ν
 |d+1=>σ (am6 (lvl d))
abbrev Nm:=Γ×Nat
structure xY where
 pl:Nat
 kind:Int
 bH:Bool
 n:Int
 s:Γ
structure oE where
 pl:Nat
 ew:Δ xY
structure rm where
 aI:Nm
 fn:Γ
 pl:Nat
 ov:Nm
 fq:Bool
structure dz where
 cU:Γ
 pl:Nat
 tj:Nm
 bJ:Δ Nm
 fG:Δ (Ex×Nat)
 left:Nm
 right:Nm
 eq:Nat
 eY:Δ rm
 down:Δ Bool
 n:Nat
inductive Bp where
 | create (t:Nm) (cy:Δ (Nm×Nat))
 | drop (t:Nm)
 | load (t:Nm) (ry:Δ oE)
 | qM (uz tj:Nm) (cy:Δ Nm) (cond:Ex) (first:Nat)
 | pO (uz tj:Nm)
 | query (oF:Δ dz)
def qA:Γ:=bs [44]
def Xq:Γ:=bs [124]
def jl:Γ:=bs [58]
def zL:Γ:=bs [61]
def aiZ:Γ:=bs [105,110,116]
def ai0:Γ:=bs [115,116,114]
def OY:Γ:=bs [98,111,111,108]
def p8:Γ:=bs [111,110]
def fQ:Γ:=bs [119,104,101,114,101]
def rq:Γ:=bs [109,97,112]
def mT:Γ:=bs [106,111,105,110]
def kh:Γ:=bs [103,114,111,117,112]
def kE:Γ:=bs [111,114,100,101,114]
def Lx:Γ:=bs [100,111,119,110]
def iY:Γ:=bs [108,105,109,105,116]
def rr:Γ:=bs [99,114,101,97,116,101]
def BM:Γ:=bs [100,114,111,112]
def Du:Γ:=bs [108,111,97,100]
def zQ:Γ:=bs [103,114,97,110,116]
def xZ:Γ:=bs [114,101,118,111,107,101]
def gd:Γ:=bs [102,114,111,109]
def kW:Γ:=bs [99,111,117,110,116]
def zA:Γ:=bs [115,117,109]
def zR:Γ:=bs [109,105,110]
def Bq:Γ:=bs [109,97,120]
def lF{α:Type}(one:aD->α×aD):Nat->Δ α->aD->Δ α×aD
 |0,l,m=>(l,m)
 |n+1,l,m=>if m.is qA then lF one n (l++[(one m.aK).1]) (one m.aK).2 else(l,m)
def de{α:Type}(one:aD->α×aD)(m:aD):Δ α×aD:=lF one (one m).2.len [(one m).1] (one m).2
def fL:aD->Δ Nm×aD:=de aD.aI
def qN(m:aD):Nat×aD:=if m.is aiZ then(0,m.aK)else if m.is ai0 then(1,m.aK)else(2,m.take OY)
def qB(m:aD):(Nm×Nat)×aD:=((m.aI.1,(qN m.aI.2).1),(qN m.aI.2).2)
def OZ:xY:=⟨0,0,false,0,ByteArray.empty⟩
def gF(m:aD):xY×aD:=
 if m.is pN then
  match m.aK.tk with
  |.num n=>(⟨m.cE,0,false,-(n:Int),ByteArray.empty⟩,m.aK.aK)
  |_=>(OZ,m.aK.cQ 2)
 else match m.tk with
  |.num n=>(⟨m.cE,0,false,n,ByteArray.empty⟩,m.aK)
  |.str s=>(⟨m.cE,1,false,0,s⟩,m.aK)
  |_=>
    if m.is FN then(⟨m.cE,2,false,1,ByteArray.empty⟩,m.aK)
    else if m.is zP then(⟨m.cE,2,false,0,ByteArray.empty⟩,m.aK)
    else if m.is tZ then(⟨m.cE,-1,true,0,ByteArray.empty⟩,m.aK)
    else(OZ,m.cQ 2)
def kj(m:aD):oE×aD:=(⟨m.cE,(de gF (m.take du)).1⟩,(de gF (m.take du)).2.take fK)
def nz:Nat->Δ oE->aD->Δ oE×aD
 |0,l,m=>(l,m)
 |n+1,l,m=>if m.is du then nz n (l++[(kj m).1]) (kj m).2 else(l,m)
def oL(m:aD):(Ex×Nat)×aD:=(((ny (lvl 8) m).1,m.cE),(ny (lvl 8) m).2)
def kX(m:aD):rm×aD:=
 let m1:=m.aI.2.take zL
 let known:=m1.is kW||m1.is zA||m1.is zR||m1.is Bq
 let fn:=match m1.tk with
  |.cU s=>s
  |.sign s=>s
  |_=>ByteArray.empty
 let m2:=(if known then m1.aK else m1.cQ 2).take du
 if m1.is kW&&m2.is fK then(⟨m.aI.1,fn,m1.cE,(ByteArray.empty,0),true⟩,m2.take fK)
 else(⟨m.aI.1,fn,m1.cE,m2.aI.1,false⟩,m2.aI.2.take fK)
def eZ(m:aD):(Nm×(Ex×Nat))×aD:=((m.aI.1,(oL (m.aI.2.take zL)).1),(oL (m.aI.2.take zL)).2)
def dT(m:aD):(Nm×Bool)×aD:=((m.aI.1,m.aI.2.is Lx),if m.aI.2.is Lx then m.aI.2.aK else m.aI.2)
def fq(w:Γ)(pl:Nat):dz:=⟨w,pl,(ByteArray.empty,0),[],[],(ByteArray.empty,0),(ByteArray.empty,0),0,[],[],0⟩
def eE(m:aD):dz×aD:=
 if m.is fQ then({ fq fQ m.cE with fG:=[(oL m.aK).1] },(oL m.aK).2)
 else if m.is rq then({ fq rq m.cE with bJ:=(de eZ m.aK).1.map (·.1),fG:=(de eZ m.aK).1.map (·.2) },(de eZ m.aK).2)
 else if m.is mT then
  let t:=m.aK.aI
  let l:=(t.2.take p8).aI
  let r:=(l.2.take zL).aI
  ({ fq mT m.cE with tj:=t.1,left:=l.1,right:=r.1,eq:=l.2.cE },r.2)
 else if m.is kh then
  let keys:Δ Nm×aD:=match m.aK.tk with
   |.aI _=>fL m.aK
   |_=>([],m.aK)
  ({ fq kh m.cE with bJ:=keys.1,eY:=(de kX (keys.2.take jl)).1 },(de kX (keys.2.take jl)).2)
 else if m.is kE then({ fq kE m.cE with bJ:=(de dT m.aK).1.map (·.1),down:=(de dT m.aK).1.map (·.2) },(de dT m.aK).2)
 else
  let m1:=m.take iY
  match m1.tk with
  |.num n=>({ fq iY m.cE with n:=n },m1.aK)
  |_=>(fq iY m.cE,m1.cQ 2)
def jc:Nat->Δ dz->aD->Δ dz×aD
 |0,l,m=>(l,m)
 |n+1,l,m=>if m.is Xq then jc n (l++[(eE m.aK).1]) (eE m.aK).2 else(l,m)
def di(m:aD):Bp×aD:=
 if m.is rr then
  let t:=m.aK.aI
  let c:=de qB (t.2.take du)
  (.create t.1 c.1,c.2.take fK)
 else if m.is BM then(.drop m.aK.aI.1,m.aK.aI.2)
 else if m.is Du then
  let t:=m.aK.aI
  let r:=kj t.2
  let l:=nz r.2.len [r.1] r.2
  (.load t.1 l.1,l.2)
 else if m.is zQ then
  let u:=m.aK.aI
  let t:=(u.2.take p8).aI
  let c:=fL (t.2.take du)
  let f:=oL ((c.2.take fK).take fQ)
  (.qM u.1 t.1 c.1 f.1.1 f.1.2,f.2)
 else if m.is xZ then
  let u:=m.aK.aI
  let t:=(u.2.take p8).aI
  (.pO u.1 t.1,t.2)
 else
  let t:=(m.take gd).aI
  let l:=jc t.2.len [{ fq gd m.cE with tj:=t.1 }] t.2
  (.query l.1,l.2)
def lG(S:Γ):Bp ⊕ (Nat×Nat):=
 if 300<S.size then .inr (1,0)
 else
  let r:=di (aD.of (iw S 0))
  match r.2 with
  |.dead e b=>.inr (e,b)
  |.live ⟨.stop,_⟩ _=>.inl r.1
  |.live t _=>.inr (2,t.pl)
structure aF where
 bH:Bool
 n:Int
 s:Γ
abbrev bU:=Γ×Nat
def fj:aF:=⟨true,0,ByteArray.empty⟩
def ox(n:Int):aF:=⟨false,n,ByteArray.empty⟩
def iy(b:Bool):aF:=ox (if b then 1 else 0)
def wP(cy:Δ bU)(s:Γ):Option Nat:=cy.findIdx? (λc=>ct c.1 s)
def VJ:Γ:=bs [43]
def aaK:Γ:=bs [42]
def aaL:Γ:=bs [47]
def ai1:Γ:=bs [37]
def asZ:Γ:=bs [97,110,100]
def kOr:Γ:=bs [111,114]
def kNe:Γ:=bs [60,62]
def kLt:Γ:=bs [60]
def kLe:Γ:=bs [60,61]
def kGt:Γ:=bs [62]
def kGe:Γ:=bs [62,61]
def pP(op:Γ):Bool:=ct op VJ||ct op pN||ct op aaK||ct op aaL||ct op ai1
def jm(op:Γ):Bool:=ct op zL||ct op kNe||ct op kLt||ct op kLe||ct op kGt||ct op kGe
def dp(cy:Δ bU):Ex->Nat ⊕ (Nat×Nat)
 |.num _=>.inl 0
 |.str _=>.inl 1
 |.bool _=>.inl 2
 |.junk=>.inl 0
 |.col s a=>match cy.find? (λc=>ct c.1 s)with
   |some c=>.inl c.2
   |none=>.inr (5,a)
 |.lA _ _ x=>match dp cy x with
   |.inr e=>.inr e
   |.inl _=>.inl 2
 |.neg a x=>match dp cy x with
   |.inr e=>.inr e
   |.inl k=>if k=0 then .inl 0 else .inr (7,a)
 |.not a x=>match dp cy x with
   |.inr e=>.inr e
   |.inl k=>if k=2 then .inl 2 else .inr (7,a)
 |.two op a x y=>match dp cy x with
   |.inr e=>.inr e
   |.inl k=>match dp cy y with
     |.inr e=>.inr e
     |.inl j=>if k≠j\/(k≠(if pP op then 0 else 2)/\jm op=false)then .inr (7,a)else .inl (if pP op then 0 else 2)
def oV(cy:Δ bU)(e:Ex)(first:Nat):Nat×Nat:=match dp cy e with
 |.inr q=>q
 |.inl k=>if k=2 then(0,0)else(7,first)
def ae4(n:Int):Bool:=decide (-9223372036854775808<=n/\n<=9223372036854775807)
def ahu(op:Γ)(a b:Int):Option Int:=
 if ct op VJ then(if ae4 (a+b)then σ (a+b)else ν)
 else if ct op pN then(if ae4 (a - b)then σ (a - b)else ν)
 else if ct op aaK then(if ae4 (a*b)then σ (a*b)else ν)
 else if b=0 then ν
 else if ct op ai1 then σ (a.tmod b)
 else if ae4 (a.tdiv b)then σ (a.tdiv b)else ν
def qb:Δ UInt8->Δ UInt8->Int
 |[],[]=>0
 |[],_::_=>-1
 |_::_,[]=>1
 |a::x,b::y=>if a=b then qb x y else if a<b then -1 else 1
def ET(a b:aF):Int:=
 if a.bH||b.bH then(if a.bH&&b.bH then 0 else if a.bH then -1 else 1)
 else if a.n<b.n then -1 else if a.n>b.n then 1 else qb a.s.toList b.s.toList
def MZ(op:Γ)(d:Int):Bool:=
 if ct op zL then decide (d=0)else if ct op kNe then decide (d≠0)else if ct op kLt then decide (d<0)else if ct op kLe then decide (d<=0)else if ct op kGt then decide (d>0)else decide (d>=0)
def ahv(op:Γ)(a b:aF):Option aF:=
 if a.bH||b.bH then σ fj
 else if jm op then σ (iy (MZ op (ET a b)))
 else(ahu op a.n b.n).map ox
def BN(cy:Δ bU)(row:Δ aF):Ex->aF ⊕ Nat
 |.num n=>.inl (ox n)
 |.str s=>.inl ⟨false,0,s⟩
 |.bool b=>.inl (iy b)
 |.junk=>.inl (ox 0)
 |.col s _=>.inl (match wP cy s with
   |some i=>row.getD i fj
   |none=>fj)
 |.lA no _ x=>match BN cy row x with
   |.inr e=>.inr e
   |.inl v=>.inl (iy (v.bH != no))
 |.not _ x=>match BN cy row x with
   |.inr e=>.inr e
   |.inl v=>.inl (if v.bH then v else iy (decide (v.n=0)))
 |.neg a x=>match BN cy row x with
   |.inr e=>.inr e
   |.inl v=>match ahv pN (ox 0) v with
     |some r=>.inl r
     |none=>.inr a
 |.two op a x y=>
   if ct op asZ||ct op kOr then
    match BN cy row x with
    |.inr e=>.inr e
    |.inl u=>if u.bH=false/\u.n=(if ct op kOr then 1 else 0)then .inl u else
      match BN cy row y with
      |.inr e=>.inr e
      |.inl v=>if v.bH=false/\v.n=(if ct op kOr then 1 else 0)then .inl v else if u.bH then .inl u else .inl v
   else
    match BN cy row x with
    |.inr e=>.inr e
    |.inl u=>match BN cy row y with
      |.inr e=>.inr e
      |.inl v=>match ahv op u v with
        |some r=>.inl r
        |none=>.inr a
structure Xr where
 cy:Δ bU
 ry:Δ (Δ aF)
structure aaM where
 aI:Γ
 rel:Xr
structure SW where
 uz:Γ
 tj:Γ
 cy:Δ Γ
 cond:Ex
structure oG where
 tables:Δ aaM
 grants:Δ SW
 aaN:Nat
def isTrue(v:aF ⊕ Nat):Bool:=match v with
 |.inl c=>!c.bH&&decide (c.n=1)
 |.inr _=>false
def Hq(st:oG)(s:Γ):Option aaM:=st.tables.find? (λt=>ct t.aI s)
def SY(st:oG)(u s:Γ):Option SW:=st.grants.find? (λg=>ct g.uz u&&ct g.tj s)
def sB:Γ:=bs [97,100,109,105,110]
def am7(all:Δ bU)(cy:Δ bU)(row:Δ aF):Δ aF:=cy.map λc=>match wP all c.1 with
 |some i=>row.getD i fj
 |none=>fj
def aaO(st:oG)(uz tj:Γ):Option Xr:=
 match Hq st tj with
 |none=>ν
 |some t=>
   if ct uz sB then σ t.rel
   else match SY st uz tj with
    |none=>ν
    |some g=>
      let cy:=t.rel.cy.filter (λc=>g.cy.any (λs=>ct s c.1))
      σ ⟨cy,(t.rel.ry.filter (λr=>isTrue (BN t.rel.cy r g.cond))).map (am7 t.rel.cy cy)⟩
def VK(cy:Δ bU):Δ bU->Δ (Nm×Ex)->Δ bU ⊕ (Nat×Nat)
 |out,[]=>.inl out
 |out,(n,e)::l=>
   if out.any (λc=>ct c.1 n.1)then .inr (6,n.2)
   else match dp cy e with
    |.inr q=>.inr q
    |.inl k=>VK cy (out++[(n.1,k)]) l
def ae5(cy more:Δ bU)(s:dz):Δ bU ⊕ (Nat×Nat):=
 if cy.any (λc=>more.any (λd=>ct d.1 c.1))then .inr (6,s.tj.2)
 else match cy.find? (λc=>ct c.1 s.left.1)with
  |none=>.inr (5,s.left.2)
  |some a=>match more.find? (λc=>ct c.1 s.right.1)with
    |none=>.inr (5,s.right.2)
    |some b=>if a.2=b.2 then .inl (cy++more)else .inr (7,s.eq)
def Hr(cy:Δ bU):Δ bU->Δ Nm->Δ bU ⊕ (Nat×Nat)
 |out,[]=>.inl out
 |out,n::l=>match cy.find? (λc=>ct c.1 n.1)with
   |none=>.inr (5,n.2)
   |some c=>if out.any (λc=>ct c.1 n.1)then .inr (6,n.2)else Hr cy (out++[c]) l
def Cm(cy:Δ bU):Δ bU->Δ rm->Δ bU ⊕ (Nat×Nat)
 |out,[]=>.inl out
 |out,m::l=>
   if out.any (λc=>ct c.1 m.aI.1)then .inr (6,m.aI.2)
   else if m.fq then Cm cy (out++[(m.aI.1,0)]) l
   else match cy.find? (λc=>ct c.1 m.ov.1)with
    |none=>.inr (5,m.ov.2)
    |some c=>
      if ct m.fn zA&&decide (c.2≠0)then .inr (7,m.pl)
      else Cm cy (out++[(m.aI.1,if ct m.fn zR||ct m.fn Bq then c.2 else 0)]) l
def aaP(cy:Δ bU)(s:dz):Δ bU ⊕ (Nat×Nat):=match Hr cy [] s.bJ with
 |.inr q=>.inr q
 |.inl out=>Cm cy out s.eY
def O1(cy:Δ bU):Δ Nm->Δ bU ⊕ (Nat×Nat)
 |[]=>.inl cy
 |n::l=>if cy.any (λc=>ct c.1 n.1)then O1 cy l else .inr (5,n.2)
def aaQ(cy more:Δ bU)(s:dz):Δ bU ⊕ (Nat×Nat):=
 if ct s.cU fQ then
  match s.fG with
  | (e,f)::_=>(match oV cy e f with
    | (0,_)=>.inl cy
    |q=>.inr q)
  |[]=>.inl cy
 else if ct s.cU rq then VK cy [] (s.bJ.zip (s.fG.map (·.1)))
 else if ct s.cU mT then ae5 cy more s
 else if ct s.cU kh then aaP cy s
 else if ct s.cU kE then O1 cy s.bJ
 else .inl cy
def aaR(cy:Δ bU)(e:Ex):Δ (Δ aF)->Δ (Δ aF) ⊕ Nat
 |[]=>.inl []
 |r::l=>match BN cy r e with
   |.inr p=>.inr p
   |.inl v=>match aaR cy e l with
     |.inr p=>.inr p
     |.inl o=>.inl (if isTrue (.inl v)then r::o else o)
def VL(cy:Δ bU)(row:Δ aF):Δ Ex->Δ aF ⊕ Nat
 |[]=>.inl []
 |e::l=>match BN cy row e with
   |.inr p=>.inr p
   |.inl v=>match VL cy row l with
     |.inr p=>.inr p
     |.inl o=>.inl (v::o)
def O2(cy:Δ bU)(es:Δ Ex):Δ (Δ aF)->Δ (Δ aF) ⊕ Nat
 |[]=>.inl []
 |r::l=>match VL cy r es with
   |.inr p=>.inr p
   |.inl v=>match O2 cy es l with
     |.inr p=>.inr p
     |.inl o=>.inl (v::o)
def cellAt(cy:Δ bU)(row:Δ aF)(s:Γ):aF:=match wP cy s with
 |some i=>row.getD i fj
 |none=>fj
def am8(x y:aF):Bool:=!x.bH&&!y.bH&&decide (ET x y=0)
def am9(r t:Xr)(s:dz):Δ (Δ aF):=r.ry.flatMap λa=>(t.ry.filter (λb=>am8 (cellAt r.cy a s.left.1) (cellAt t.cy b s.right.1))).map (λb=>a++b)
def aaS(a b:Δ aF):Bool:=(a.zip b).all (λp=>decide (ET p.1 p.2=0))
def ana(m:rm)(old v:aF):Option aF:=
 if ct m.fn kW then σ (if m.fq||!v.bH then{ old with n:=old.n+1 }else old)
 else if v.bH then σ old
 else if old.bH then σ v
 else if ct m.fn zA then(ahu VJ old.n v.n).map ox
 else if(ct m.fn zR&&decide (ET v old<0))||(ct m.fn Bq&&decide (ET v old>0))then σ v else σ old
def O4(cy:Δ bU)(row:Δ aF):Δ rm->Δ aF->Δ aF ⊕ Nat
 |[],_=>.inl []
 |m::ms,o=>match ana m (o.headD fj) (if m.fq then ox 0 else cellAt cy row m.ov.1)with
   |none=>.inr m.pl
   |some c=>match O4 cy row ms o.tail with
     |.inr p=>.inr p
     |.inl l=>.inl (c::l)
def ae6(ms:Δ rm):Δ aF:=ms.map λm=>if ct m.fn kW then ox 0 else fj
def SZ(cy:Δ bU)(s:dz)(out:Δ (Δ aF×Δ aF))(row:Δ aF):Δ (Δ aF×Δ aF) ⊕ Nat:=
 let k:=s.bJ.map (λn=>cellAt cy row n.1)
 let i:=out.findIdx (λg=>aaS g.1 k)
 let out:=if i<Λ out then out else out++[(k,ae6 s.eY)]
 match O4 cy row s.eY (out.getD i ([],[])).2 with
 |.inr p=>.inr p
 |.inl l=>.inl (out.set i ((out.getD i ([],[])).1,l))
def Hs(cy:Δ bU)(s:dz):Δ (Δ aF×Δ aF)->Δ (Δ aF)->Δ (Δ aF) ⊕ Nat
 |out,[]=>.inl (out.map λg=>g.1++g.2)
 |out,r::l=>match SZ cy s out r with
   |.inr p=>.inr p
   |.inl o=>Hs cy s o l
def aaT(cy:Δ bU)(a b:Δ aF):Δ (Nm×Bool)->Bool
 |[]=>false
 | (n,down)::l=>
   let d:=ET (cellAt cy a n.1) (cellAt cy b n.1)
   let d:=if down then -d else d
   if d≠0 then decide (d<0)else aaT cy a b l
def VM(cy:Δ bU)(ks:Δ (Nm×Bool))(row:Δ aF):Δ (Δ aF)->Δ (Δ aF)
 |[]=>[row]
 |r::l=>if(r::l).all (λx=>aaT cy row x ks)then row::r::l else r::VM cy ks row l
def anb(cy:Δ bU)(ks:Δ (Nm×Bool))(ry:Δ (Δ aF)):Δ (Δ aF):=ry.foldl (λo r=>VM cy ks r o) []
def Ta(r t:Xr)(s:dz):Δ (Δ aF) ⊕ Nat:=
 if ct s.cU fQ then aaR r.cy ((s.fG.map (·.1)).headD .junk) r.ry
 else if ct s.cU rq then O2 r.cy (s.fG.map (·.1)) r.ry
 else if ct s.cU mT then .inl (am9 r t s)
 else if ct s.cU kh then Hs r.cy s [] r.ry
 else if ct s.cU kE then .inl (anb r.cy (s.bJ.zip s.down) r.ry)
 else .inl (r.ry.take s.n)
def decNat(n:Nat):Δ UInt8:=(Nat.toDigits 10 n).map (λc=>c.toNat.toUInt8)
def as1(n:Int):Γ:=⟨⟨(if n<0 then[45]else[])++decNat n.natAbs⟩⟩
def anc(k:Nat)(c:aF):Γ:=
 if c.bH then tZ else if k=0 then as1 c.n else if k=1 then bs [39]++c.s++bs [39]else if c.n=1 then FN else zP
def ane(k:Nat):Γ:=if k=0 then aiZ else if k=1 then ai0 else OY
def ahw(l:Δ Γ):Γ:=match l with
 |[]=>ByteArray.empty
 |x::l=>l.foldl (λa b=>a++bs [44]++b) x
def ae7(r:Xr):Γ:=
 r.ry.foldl (λa row=>a++ahw ((r.cy.zip row).map (λp=>anc p.1.2 p.2))++bs [10]) (ahw (r.cy.map (λc=>c.1++bs [58]++ane c.2))++bs [10])
def M0(st:oG)(uz:Γ):Δ bU->Δ dz->Nat×Nat
 |_,[]=>(0,0)
 |cy,s::l=>
   if ct s.cU gd then
    match aaO st uz s.tj.1 with
    |none=>(5,s.tj.2)
    |some v=>M0 st uz v.cy l
   else if ct s.cU mT then
    match aaO st uz s.tj.1 with
    |none=>(5,s.tj.2)
    |some v=>match aaQ cy v.cy s with
      |.inr q=>q
      |.inl c=>M0 st uz c l
   else match aaQ cy [] s with
    |.inr q=>q
    |.inl c=>M0 st uz c l
def Tb(st:oG)(uz:Γ):Xr->Nat->Δ dz->Γ×Nat×Nat
 |r,_,[]=>(ae7 r,0,0)
 |r,eY,s::l=>
   let v:=(aaO st uz s.tj.1).getD ⟨[],[]⟩
   if ct s.cU gd then
    if st.aaN<eY+Λ v.ry then(ByteArray.empty,10,s.pl)else Tb st uz v (eY+Λ v.ry) l
   else match Ta r v s with
    |.inr p=>(ByteArray.empty,9,p)
    |.inl ry=>
      if st.aaN<eY+Λ ry then(ByteArray.empty,10,s.pl)
      else match aaQ r.cy v.cy s with
       |.inr _=>(ByteArray.empty,0,0)
       |.inl c=>Tb st uz ⟨c,ry⟩ (eY+Λ ry) l
def ai2(st:oG)(uz:Γ)(ss:Δ dz):Γ×Nat×Nat:=
 match M0 st uz [] ss with
 | (0,_)=>Tb st uz ⟨[],[]⟩ 0 ss
 | (e,p)=>(ByteArray.empty,e,p)
def ru:Δ Nm->Δ Nm->Option Nat
 |_,[]=>ν
 |seen,n::l=>if seen.any (λm=>ct m.1 n.1)then σ n.2 else ru (seen++[n]) l
def ae8(st:oG)(t:Nm)(cy:Δ (Nm×Nat)):oG×Nat×Nat:=
 if(Hq st t.1).isSome then(st,6,t.2)
 else match ru [] (cy.map (·.1))with
  |some p=>(st,6,p)
  |none=>if 4<=Λ st.tables\/5<Λ cy then(st,8,0)else({ st with tables:=st.tables++[⟨t.1,⟨cy.map (λc=>(c.1.1,c.2)),[]⟩⟩] },0,0)
def anf(st:oG)(t:Nm):oG×Nat×Nat:=
 if(Hq st t.1).isSome then({ st with tables:=st.tables.filter (λx=>!ct x.aI t.1),grants:=st.grants.filter (λg=>!ct g.tj t.1) },0,0)else(st,5,t.2)
def lU(cy:Δ bU)(r:oE):Option Nat:=
 if Λ r.ew≠Λ cy then σ r.pl
 else((r.ew.zip cy).find? (λp=>decide (p.1.kind≠-1/\p.1.kind≠(p.2.2:Int)))).map (λp=>p.1.pl)
def cellOf(v:xY):aF:=⟨v.bH,v.n,v.s⟩
def ang(st:oG)(t:Nm)(ry:Δ oE):oG×Nat×Nat:=
 match Hq st t.1 with
 |none=>(st,5,t.2)
 |some x=>match ry.findSome? (lU x.rel.cy)with
   |some p=>(st,7,p)
   |none=>if 64<Λ x.rel.ry+Λ ry then(st,8,0)
     else({ st with tables:=st.tables.map (λy=>if ct y.aI t.1 then{ y with rel:={ y.rel with ry:=y.rel.ry++ry.map (λr=>r.ew.map cellOf) } }else y) },0,0)
def gV(cy:Δ bU):Δ Nm->Δ Nm->Nat×Nat
 |_,[]=>(0,0)
 |seen,n::l=>if cy.any (λc=>ct c.1 n.1)then(if seen.any (λm=>ct m.1 n.1)then(6,n.2)else gV cy (seen++[n]) l)else(5,n.2)
def anh(st:oG)(u t:Nm)(cy:Δ Nm)(e:Ex)(first:Nat):oG×Nat×Nat:=
 match Hq st t.1 with
 |none=>(st,5,t.2)
 |some x=>match gV x.rel.cy [] cy with
   | (0,_)=>(match oV x.rel.cy e first with
     | (0,_)=>
       let g:SW:=⟨u.1,t.1,cy.map (·.1),e⟩
       if(SY st u.1 t.1).isSome then({ st with grants:=st.grants.map (λh=>if ct h.uz u.1&&ct h.tj t.1 then g else h) },0,0)
       else if 8<=Λ st.grants then(st,8,0)else({ st with grants:=st.grants++[g] },0,0)
     | (c,p)=>(st,c,p))
   | (c,p)=>(st,c,p)
def ae9(st:oG)(u t:Nm):oG×Nat×Nat:=
 if(SY st u.1 t.1).isSome then({ st with grants:=st.grants.filter (λg=>!(ct g.uz u.1&&ct g.tj t.1)) },0,0)else(st,5,u.2)
def doD(st:oG)(uz S:Γ):oG×Γ×Nat×Nat:=
 match lG S with
 |.inr (e,p)=>(st,ByteArray.empty,e,p)
 |.inl (.query ss)=>(st,ai2 st uz ss)
 |.inl c=>
   if ct uz sB=false then(st,ByteArray.empty,4,0)
   else
    let r:=match c with
     |.create t cy=>ae8 st t cy
     |.drop t=>anf st t
     |.load t ry=>ang st t ry
     |.qM u t cy e f=>anh st u t cy e f
     |.pO u t=>ae9 st u t
     |.query _=>(st,0,0)
    (r.1,ByteArray.empty,r.2.1,r.2.2)
def Hid(p:Prop):Prop:=p
theorem ak(h:k):Hid k:=h
theorem Hid.J(h:Hid k):k:=h
theorem nm{d:Sort _}(b:d):∃c,c=b:=⟨_,rfl⟩
structure bu (K:Nat->Prop)(w w':ω):Prop where
 os:w'.os=w.os
 tape:w'.tape=w.tape
 output:w'.output=w.output
 size:w.heap.size<=w'.heap.size
 block:∀k,K k->w'.heap[k]?=w.heap[k]?
theorem bu.refl(b:Nat->Prop)(w:ω):bu b w w:=⟨rfl,rfl,rfl,ae _,λ_ _=>rfl⟩
theorem bu.trans{a b:ω}(h:bu p a b)(c:bu p b t):bu p a t:=
 ⟨c.os.trans h.os,c.tape.trans h.tape,c.output.trans h.output,ay h.size c.size,λe d=>(c.block e d).trans (h.block e d)⟩
theorem bu.mono{K':Nat->Prop}{w w':ω}(h:bu p w w')(c:∀b,K' b->p b):bu K' w w':=⟨h.os,h.tape,h.output,h.size,λb d=>h.block b (c b d)⟩
theorem bu.drew{a w:ω}(h:bu p a w):bu p a w.drew:=⟨h.os,h.tape,h.output,h.size,h.block⟩
theorem bu.alloc{a w:ω}(h:bu p a w)(c:∀b,p b->b<w.heap.size)(e:Obj):bu p a (w.alloc e):=
 h.trans ⟨rfl,rfl,rfl,by simp,λb d=>dA _ _ _ (c b d)⟩
theorem bu.setCell{b:Nat->Prop}{a w:ω}(h:bu b a w){p:Addr}(e:¬b p.block)(f:υ):bu b a (w.setCell p f):=
 h.trans ⟨rfl,rfl,rfl,by simp[World.setCell],λi d=>aL _ _ _ _ (λc=>e (c ▸ d))⟩
theorem bu.grown{a w w':ω}{row:Option Nat}(h:bu p a w)(c:Ψ w w' row)(f:∀b,p b->b<w.heap.size)(i:∀b,row=σ b->¬p b):bu p a w':=
 h.trans ⟨c.os,c.tape,c.output,c.size,λb d=>c.block b (f b d) (λe=>i b e.symm d)⟩
theorem bu.cell{b:Nat->Prop}{w w':ω}(h:bu b w w'){p:Addr}(c:b p.block):w'.cell? p=w.cell? p:=dx (w:=w) (h.block p.block c)
theorem bu.frozen{b:Nat->Prop}{w w':ω}(h:bu b w w'){p:Addr}(c:b p.block):w'.frozen? p=w.frozen? p:=dI (w:=w) (h.block p.block c)
theorem bu.aU{w w':ω}(h:bu (·<n) w w'):Below n w w':=⟨h.os,h.tape,h.output,h.size,h.block⟩
theorem bu.Dv{w w':ω}(h:Below n w w'):bu (·<n) w w':=⟨h.os,h.tape,h.output,h.size,h.block⟩
theorem bu.uN{K:Nat->Prop}{w w':ω}(h:Ψ w w' ν)(c:∀b,K b->b<w.heap.size):bu K w w':=⟨h.os,h.tape,h.output,h.size,λb d=>h.block b (c b d) (by simp)⟩
theorem grownBy_setCell(w:ω)(a:Addr)(b:υ):Ψ w (w.setCell a b) (σ a.block):=
 ⟨rfl,rfl,rfl,by simp[World.setCell],λe _ d=>aL w a b e (λc=>d (bI σ c))⟩
theorem jR{w:ω}{b:TypeId}{size:Nat}{c:Nat}{d:Δ υ}(h:Φ w n b size r c d)(i:u<=n):Φ w u b size r c d:=by
 refine⟨h.1,?_⟩;rcases h.2 with f|⟨g,e,cur,k,j,l⟩
 {exact .inl f};exact .inr ⟨g,e,cur,k,ay i j,l⟩
theorem mb{l:Program}(w:ω){O:Array Oper}{rest:Δ Oper}{o:Oper}{a:Act}{C:Exit->Act->ω->Prop}(D:o.guard=ν)(p r:Operand)(j:TypeId)
 (K:o.op=.call { callee:=.builtin .append,args:=#[p,r],argTypes:=#[j,j] })
 (s:Nat) (d:TypeId) (i:TypeInfo) (A:υ) (size bytes:Nat) (M:l.underlying j=σ (.slice d)) (H:l.info? d=σ i) (V:i.zero=σ A)
 (B:i.size=size) (T:i.bytes=bytes) (X:A.cells.size=size) (qY:0<size)
 (y:υ) (c:Nat) (k:Δ υ) (L:a.eval p=y) (u:Φ w s d size y c k)
 (n:Addr) (m t:Nat) (e:Δ υ) (N:a.eval r=ψ (σ n) m t) (I:Λ e=m*size) (E:∀Y x,e[Y]?=σ x->w.cell? (n.add Y)=σ x) (F:∀x∈e,x.oneCell'=true)
 (hm:0<m) (R:c+m<=maxLen) (P:(c+m)*bytes<=140737488355328) (vH:s<=w.heap.size)
 (h:∀g b w',Φ w' s d size (ψ (σ ⟨g,0,ν⟩) (c+m) b) (c+m) (k++e)->Ψ w w' (Ω y)->(Ω y=σ g\/w.heap.size<=g)->wpList l O C rest (a.put o.dst (ψ (σ ⟨g,0,ν⟩) (c+m) b)) w'):wpList l O C (o::rest) a w:=by
 have Q:∀z w',Φ w' w.heap.size d size z (c+m) (k++e)->Ψ w w' ν->wpList l O C rest (a.put o.dst z) w':=(by intro z w' v f;obtain⟨g,b,rfl,U⟩:∃g b,z=ψ (σ ⟨g,0,ν⟩) (c+m) b/\w.heap.size<=g:=(by rcases v.2 with⟨_,h⟩|⟨g,zB,_,h,G,_⟩;{omega};exact⟨g,zB,h,G⟩);exact h g b w' (jR v vH) ⟨f.os,f.tape,f.output,f.size,λac hk _=>f.block ac hk (by simp)⟩ (.inr U));have Z:=u;rcases u.2 with⟨rfl,rfl⟩|⟨g,b,cur,rfl,fZ,U,am,GX,al,ag⟩
 {have ab:k=[]:=ld (by simpa using u.1);subst ab;exact wpList_append_grows w D p r j K d i A size bytes M H V B T X qY ν 0 0 [] L (λ_=>⟨rfl,rfl⟩) (by simp) (by intro _ h;cases h) n m t e N I E F (by omega) R P Q};by_cases aa:c+m<=b;{exact wpList_append_fits w D p r j K s d i size M H B g c b k L Z n m t e N I E F aa (λw' v f=>h g b w' v f (.inl rfl))};exact wpList_append_grows w D p r j K d i A size bytes M H V B T X qY (σ ⟨g,0,ν⟩) c b k L (by intro h;cases h) u.1 (by intro ai G;cases G;exact Z.cells rfl) n m t e N I E F (by omega) R P Q
theorem Br{w W:ω}(h:W=w.alloc s):Below w.heap.size w W:=by rw[h];exact(aj _ _).alloc (ae _) _
theorem zS{w W:ω}(h:W=(w.alloc s).alloc c):Below w.heap.size w W:=by rw[h];exact((aj _ _).alloc (ae _) _).alloc (by simp) _
theorem as2{w W:ω}{q:Obj}(h:W=((w.alloc s).alloc c).alloc q):Below w.heap.size w W:=by rw[h];exact(((aj _ _).alloc (ae _) _).alloc (by simp) _).alloc (by simp;omega) _
abbrev It:=(Nat×Array Value×TypeId) ⊕ (Value×TypeId×Nat×Nat×Δ Value)
def OC:It->Option Nat
 |.inl a=>σ a.1
 |.inr a=>Ω a.1
def zE(lo:Nat)(w:ω):It->Prop
 |.inl a=>w.heap[a.1]?=σ (.cells a.2.1 a.2.2 (0,0))/\lo<=a.1
 |.inr a=>Φ w lo a.2.1 a.2.2.1 a.1 a.2.2.2.1 a.2.2.2.2
section
variable {w w':ω} {lo lo' g:Nat} {a:It}
theorem qs(h:zE lo w a)(b:∀g,OC a=σ g->w'.heap[g]?=w.heap[g]?):zE lo w' a:=by
 cases a with
 |inl a=>exact⟨(b _ rfl).trans h.1,h.2⟩
 |inr a=>
  refine⟨h.1,?_⟩;rcases h.2 with e|⟨g,d,cur,c,i,f,j⟩
  {exact .inl e};exact .inr ⟨g,d,cur,c,i,(b g (by show Ω a.1=_;rw[c];rfl)).trans f,j⟩
theorem pI(h:zE lo w a)(b:OC a=σ g):g<w.heap.size/\lo<=g:=by cases a with|inl a=>cases b;exact⟨(pb.mp h.1).1,h.2⟩|inr a=>exact(gR h g b).symm
theorem Ti(h:zE lo w a)(b:lo'<=lo):zE lo' w a:=by cases a with|inl a=>exact⟨h.1,ay b h.2⟩|inr a=>exact jR h b
end
def qD:Δ Γ:=vG++uL++mF++A2++A4
def tS:Ex->Prop
 |.two op _ x y=>op∈qD/\tS x/\tS y
 |.neg _ x=>tS x
 |.not _ x=>tS x
 |.lA _ _ x=>tS x
 |_=>True
def WfR(S:aD->Ex×aD):Prop:=∀m,tS (S m).1
theorem aa9{S:aD->Ex×aD}(h:WfR S)(i:∀e∈l,e∈qD):∀d b m,tS b->tS (nh S l d b m).1:=by intro d;induction d with|zero=>exactλb m c=>c|succ d j=>intro b m c;unfold nh;split;{rename_i e f;exact j _ _ ⟨i e (kq f),c,h _⟩};exact c
theorem Dz{S:aD->Ex×aD}(h:WfR S)(b:∀c∈l,c∈qD):WfR (uM S l):=λm=>aa9 h b _ _ _ (h m)
def WfL:Option BJ->Prop
 |none=>True
 |some l=>WfR l.expr/\WfR l.MY/\WfR l.turn
section
variable {sub:Option BJ} (h:WfL sub)
include h
theorem afe:WfR (kO sub):=λm=>by
 unfold kO;split
 . cases sub with
   |none=>trivial
   |some b=>exact h.1 _
 . split
   . trivial
   . trivial
   . trivial
   . split
     . trivial
     . split<;>trivial
   . trivial
theorem VR:WfR (jL sub):=λm=>by
 unfold jL;split
 . cases sub with
   |none=>trivial
   |some b=>exact h.2.2 _
 . exact afe h m
theorem DA:WfR (gU sub):=Dz (Dz (VR h) (λb h=>by simp[qD,h])) (λb h=>by simp[qD,h])
theorem aff:WfR (pH sub):=λm=>by
 unfold pH;simp only;split
 . rename_i b c
   exact⟨(show∀b∈mF,b∈qD fromλb h=>by simp[qD,h]) b (kq c),DA h _,DA h _⟩
 . split
   . exact DA h m
   . exact DA h m
theorem VT:WfR (jQ sub):=λm=>by
 unfold jQ;split
 . cases sub with
   |none=>trivial
   |some b=>exact h.2.1 _
 . exact aff h m
theorem VU:WfR (ny sub):=Dz (Dz (VT h) (λb h=>by simp[qD,h])) (λb h=>by simp[qD,h])
end
theorem M4:∀b,WfL (lvl b)
 |0=>trivial
 |b+1=>⟨VU (M4 b),VT (M4 b),VR (M4 b)⟩
theorem VW(m:aD):tS (oL m).1.1:=VU (M4 8) m
def Ks:Ex->Prop
 |.str s=>s.size<=1000000000
 |.neg _ x=>Ks x
 |.not _ x=>Ks x
 |.lA _ _ x=>Ks x
 |.two _ _ x y=>Ks x/\Ks y
 |_=>True
structure DB (st:dz):Prop where
 wh:ct st.cU fQ=true->st.fG≠[]
 mp:ct st.cU rq=true->Λ st.bJ=Λ st.fG
 od:ct st.cU kE=true->Λ st.down=Λ st.bJ
 gm:ct st.cU kh=true->0<Λ st.eY
 len:Λ st.bJ<=10000/\(Λ st.eY)<=10000
 sz:(∀n∈st.bJ,n.1.size<=1000000000)/\∀m∈st.eY,m.aI.1.size<=1000000000
theorem DY(S:Γ)(b:Nat)(i:b<=S.size):(iw S b).length<=S.size - b+1:=by
 have e:=gT S dh b;rw[iw];split
 . rename_i h
   split
   . simp
   . rename_i d
     have c:=uK S (aZ S dh b) h (by simpa using d);have f:=DY S (iu S (aZ S dh b) h).2 c.2;simp only[List.length_cons];omega
 . simp
 termination_by S.size - b
theorem akl(S:Γ)(h:S.size<=300):(aD.of (iw S 0)).len<=301:=by have b:=DY S 0 (aB _);cases hk:iw S 0 with|nil=>exact absurd hk (Dt S 0)|cons d c=>rw[hk]at b;simp only[List.length_cons]at b;show Λ c+1<=301;omega
def ach:Tk->Prop
 |.aI s=>0<s.size/\s.size<=8
 |.num n=>n<=9223372036854775807
 |.str s=>s.size<=12/\∀c∈s.data.toList,gM c=true
 |_=>True
def Ue(t:Tok):Prop:=ach t.k/\t.pl<=300
def BZ:aD->Prop
 |.live t ts=>Ue t/\(∀u∈ts,Ue u)/\(Λ ts)<=300
 |.dead _ _=>True
theorem Ql(S:Γ)(e:UInt8->Bool)(c:Nat):∀b,c<=b->b<aZ S e c->∃h:b<S.size,e S[b]=true:=by
 intro b k d;rw[aZ]at d;split at d
 . rename_i j
   split at d
   . rename_i i
     by_cases f:b=c
     . subst f;exact⟨j,i⟩
     . exact Ql S e (c+1) b (by omega) d
   . omega
 . omega
 termination_by S.size - c
theorem Yx(S:Γ)(b:Nat)(h:b<S.size):ach (iu S b h).1:=by unfold iu;split;{rename_i l;have p:=jP S dP b h l;have f:=gT S dP (b+1);have i:=iq S dP b (by omega);simp only;split;{trivial};split;{trivial};show 0<(S.extract _ _).size/\(S.extract _ _).size<=8;rw[dJ];omega};split;{simp only;split;{trivial};show oK _<=_;omega};split;{simp only;split;{split;{rename_i f i;have r:=gT S gM (b+1);refine⟨?_,λo k=>?_⟩;{show(S.extract _ _).size<=12;rw[dJ];omega};obtain⟨c,d,rfl⟩:=List.getElem_of_mem k;have n:c<(S.extract (b+1) (aZ S gM (b+1))).size:=(by rw[<- pY];rw[dF]at d;exact d);rw[dJ]at n;have⟨s,j⟩:=Ql S gM (b+1) (b+1+c) (by omega) (by omega);have e:(S.extract (b+1) (aZ S gM (b+1))).data.toList[c]=S[b+1+c]:=(by simp[ByteArray.getElem_eq_getElem_data,ByteArray.data_extract]);rw[e];exact j};trivial};trivial};simp only;split<;>trivial
theorem Qm(S:Γ)(e:S.size<=300)(c:Nat):∀d∈iw S c,Ue d:=by
 intro d b;rw[iw]at b;split at b
 . rename_i f
   split at b
   . simp at b;subst b;exact⟨trivial,by show aZ S dh c<=300;omega⟩
   . rename_i i
     rw[bV]at b;rcases b with rfl|b
     . exact⟨Yx S _ f,by show aZ S dh c<=300;omega⟩
     . have j:=gT S dh c
       have k:=(uK S (aZ S dh c) f (by simpa using i)).1;exact Qm S e _ d b
 . simp at b;subst b;exact⟨trivial,e⟩
 termination_by S.size - c
 decreasing_by
 all_goals(simp_wf;omega)
theorem akn{S:Γ}(e:S.size<=300):BZ (aD.of (iw S 0)):=by have h:=Qm S e 0;have b:=DY S 0 (aB _);revert h b;cases iw S 0 with|nil=>(exactλ_ _=>⟨⟨trivial,aB _⟩,λd c=>by simp at c,by simp⟩)|cons f i=>exactλh b=>⟨h f (by simp),λd c=>h d (by simp[c]),by rw[cw]at b;omega⟩
section
variable {m:aD} (h:BZ m)
include h
theorem BZ.aK:BZ m.aK:=by cases m with|dead i f=>trivial|live j c=>cases c with|nil=>exact h|cons d k=>exact⟨h.2.1 d (by simp),λe b=>h.2.1 e (by simp[b]),by have:=h.2.2;rw[cw]at this;omega⟩
theorem BZ.len:m.len<=301:=by cases m with|dead c b=>exact aB _|live d e=>exact Nat.succ_le_succ h.2.2
theorem BZ.cE:m.cE<=300:=by cases m with|dead c b=>exact aB _|live d e=>exact h.1.2
theorem BZ.cQ(b:Nat):BZ (m.cQ b):=by cases m<;>trivial
theorem BZ.take(b:Γ):BZ (m.take b):=by unfold aD.take;split;{exact h.aK};exact h.cQ 2
theorem BZ.tk:ach m.tk:=by cases m with|dead c b=>trivial|live d e=>exact h.1.1
theorem BZ.aI:m.aI.1.1.size<=8/\m.aI.1.2<=300/\BZ m.aI.2:=by unfold aD.aI;have b:=h.tk;split;{rename_i d c;rw[c]at b;exact⟨b.2,h.cE,h.aK⟩};exact⟨aB _,aB _,h.cQ 2⟩
end
def xj{α:Type}(P:α->Prop)(one:aD->α×aD):Prop:=∀m,BZ m->P (one m).1/\BZ (one m).2
theorem aci{l:Type}{j:l->Prop}{one:aD->l×aD}(p:xj j one):∀c b m,BZ m->(∀d∈b,j d)->b≠[]->(∀d∈(lF one c b m).1,j d)/\(lF one c b m).1≠[]/\BZ (lF one c b m).2:=by
 intro c;induction c with
 |zero=>exactλb m f e k=>⟨e,k,f⟩
 |succ c r=>
  intro b m f e k;unfold lF;split
  .have⟨n,o⟩:=p _ f.aK
   exact r _ _ o (λd i=>by
    rw[bA,bj]at i;rcases i with i|rfl
    . exact e d i
    . exact n) (by simp)
  exact⟨e,k,f⟩
theorem acj{e:Type}(one:aD->e×aD):∀c b m,(lF one c b m).1.length<=Λ b+c:=by intro c;induction c with|zero=>exactλb m=>ae _|succ c d=>intro b m;unfold lF;split;{have:=d (b++[(one m.aK).1]) (one m.aK).2;rw[au,eC]at this;omega};exact xR _ _
theorem sJ{b:Type}{c:b->Prop}{one:aD->b×aD}(f:xj c one){m:aD}(e:BZ m):(de one m).1.length<=302:=by have d:=acj one (one m).2.len [(one m).1] (one m).2;have i:=(f m e).2.len;unfold de;rw[eC]at d;omega
theorem qk{f:Type}{b:f->Prop}{one:aD->f×aD}(c:xj b one){m:aD}(k:BZ m):(∀e∈(de one m).1,b e)/\(de one m).1≠[]/\BZ (de one m).2:=by have⟨i,j⟩:=c m k;exact aci c _ _ _ j (λe d=>by simp at d;subst d;exact i) (by simp)
def nF(n:Nm):Prop:=n.1.size<=8/\n.2<=300
theorem kA:xj nF aD.aI:=λ_ h=>⟨⟨h.aI.1,h.aI.2.1⟩,h.aI.2.2⟩
theorem Qn:xj (·<=2) qN:=λm h=>by
 unfold qN;split
 . exact⟨aB _,h.aK⟩
 . split
   . exact⟨by show 1<=2;omega,h.aK⟩
   . exact⟨by show 2<=2;omega,h.take _⟩
theorem Nv:xj (λb:Nm×Nat=>nF b.1/\b.2<=2) qB:=λm h=>⟨⟨(kA m h).1,(Qn _ h.aI.2.2).1⟩,(Qn _ h.aI.2.2).2⟩
def Iz(v:xY):Prop:=(v.bH=true/\v.n=0/\v.s=ByteArray.empty/\v.kind=-1)\/(v.bH=false/\((v.kind=0/\dK v.n/\v.s=ByteArray.empty)\/(v.kind=1/\v.n=0/\v.s.size<=12/\∀c∈v.s.data.toList,gM c=true)\/(v.kind=2/\(v.n=0\/v.n=1)/\v.s=ByteArray.empty)))
theorem L9:Iz OZ:=.inr ⟨rfl,.inl ⟨rfl,by unfold dK OZ;decide,rfl⟩⟩
theorem Mc:xj Iz gF:=λm h=>by
 unfold gF;split
 . have b:=h.aK.tk
   split
   . rename_i d c
     rw[c]at b;have e:d<=9223372036854775807:=b;exact⟨.inr ⟨rfl,.inl ⟨rfl,by unfold dK;simp only;omega,rfl⟩⟩,h.aK.aK⟩
   . exact⟨L9,h.aK.cQ 2⟩
 . have b:=h.tk
   split
   . rename_i d c
     rw[c]at b;have e:d<=9223372036854775807:=b;exact⟨.inr ⟨rfl,.inl ⟨rfl,by unfold dK;simp only;omega,rfl⟩⟩,h.aK⟩
   . rename_i i f
     rw[f]at b;exact⟨.inr ⟨rfl,.inr (.inl ⟨rfl,rfl,b.1,b.2⟩)⟩,h.aK⟩
   . split
     . exact⟨.inr ⟨rfl,.inr (.inr ⟨rfl,.inr rfl,rfl⟩)⟩,h.aK⟩
     . split
       . exact⟨.inr ⟨rfl,.inr (.inr ⟨rfl,.inl rfl,rfl⟩)⟩,h.aK⟩
       . split
         . exact⟨.inl ⟨rfl,rfl,rfl,rfl⟩,h.aK⟩
         . exact⟨L9,h.cQ 2⟩
def uy(r:oE):Prop:=r.ew≠[]/\(∀v∈r.ew,Iz v)/\(Λ r.ew)<=302
theorem Wz:xj uy kj:=λm h=>by
 have⟨b,c,d⟩:=qk Mc (h.take du);exact⟨⟨c,b,sJ Mc (h.take du)⟩,d.take _⟩
theorem acm:∀c b m,BZ m->(∀d∈b,uy d)->b≠[]->(∀d∈(nz c b m).1,uy d)/\(nz c b m).1≠[]/\BZ (nz c b m).2:=by
 intro c;induction c with
 |zero=>exactλb m f e j=>⟨e,j,f⟩
 |succ c n=>
  intro b m f e j;unfold nz;split
  .have⟨k,l⟩:=Wz m f
   exact n _ _ l (λd i=>by
    rw[bA,bj]at i;rcases i with i|rfl
    . exact e d i
    . exact k) (by simp)
  exact⟨e,j,f⟩
theorem acn:∀c b m,(nz c b m).1.length<=Λ b+c:=by intro c;induction c with|zero=>exactλb m=>ae _|succ c d=>intro b m;unfold nz;split;{have:=d (b++[(kj m).1]) (kj m).2;rw[au,eC]at this;omega};exact xR _ _
abbrev zk(S:aD->Ex×aD):Prop:=xj Ks S
theorem Uf{S:aD->Ex×aD}(h:zk S):∀d b m,Ks b->BZ m->Ks (nh S l d b m).1/\BZ (nh S l d b m).2:=by intro d;induction d with|zero=>exactλb m e c=>⟨e,c⟩|succ d f=>intro b m e c;unfold nh;split;{exact f _ _ ⟨e,(h _ c.aK).1⟩ (h _ c.aK).2};exact⟨e,c⟩
theorem yu{S:aD->Ex×aD}(h:zk S):zk (uM S l):=λm b=>Uf h _ _ _ (h m b).1 (h m b).2
def ain:Option BJ->Prop
 |none=>True
 |some l=>zk l.expr/\zk l.MY/\zk l.turn
section
variable {sub:Option BJ} (h:ain sub)
include h
theorem Yy:zk (kO sub):=λm b=>by
 unfold kO;split
 . cases sub with
   |none=>exact⟨trivial,b.cQ 3⟩
   |some e=>exact⟨(h.1 _ b.aK).1,(h.1 _ b.aK).2.take _⟩
 . have c:=b.tk
   split
   . exact⟨trivial,b.aK⟩
   . rename_i f d
     rw[d]at c;exact⟨ay c.1 (by decide),b.aK⟩
   . exact⟨trivial,b.aK⟩
   . split
     . exact⟨trivial,b.aK⟩
     . split
       . exact⟨trivial,b.aK⟩
       . exact⟨trivial,b.cQ 2⟩
   . exact⟨trivial,b.cQ 2⟩
theorem Md:zk (jL sub):=λm b=>by
 unfold jL;split
 . cases sub with
   |none=>exact⟨trivial,b.cQ 3⟩
   |some c=>exact h.2.2 _ b.aK
 . exact Yy h m b
theorem CP:zk (gU sub):=yu (yu (Md h))
theorem Yz:zk (pH sub):=λm c=>by
 have b:=CP h m c;unfold pH;simp only;split
 . exact⟨⟨b.1,(CP h _ b.2.aK).1⟩,(CP h _ b.2.aK).2⟩
 . split
   . refine⟨b.1,?_⟩
     split
     . exact b.2.aK.aK.take _
     . exact b.2.aK.take _
   . exact b
theorem Me:zk (jQ sub):=λm b=>by
 unfold jQ;split
 . cases sub with
   |none=>exact⟨trivial,b.cQ 3⟩
   |some c=>exact h.2.1 _ b.aK
 . exact Yz h m b
theorem Mf:zk (ny sub):=yu (yu (Me h))
end
theorem DZ:∀b,ain (lvl b)
 |0=>trivial
 |b+1=>⟨Mf (DZ b),Me (DZ b),Md (DZ b)⟩
theorem xk:xj (λc=>Ks c.1) oL:=λm b=>Mf (DZ 8) m b
theorem F2:xj (λc=>nF c.1/\Ks c.2.1) eZ:=λm b=>⟨⟨(kA m b).1,(xk _ (b.aI.2.2.take zL)).1⟩,(xk _ (b.aI.2.2.take zL)).2⟩
theorem D0:xj (λc=>nF c.1) dT:=λm b=>by
 refine⟨(kA m b).1,?_⟩;unfold dT;show BZ (if _ then _ else _);split
 . exact b.aI.2.2.aK
 . exact b.aI.2.2
theorem Mg:xj (λe=>nF e.aI) kX:=λm d=>by
 have b:BZ (m.aI.2.take zL):=d.aI.2.2.take zL;have c:=(kA m d).1;unfold kX;simp only;split
 . split
   . exact⟨c,(b.aK.take _).take _⟩
   . exact⟨c,(b.aK.take _).aI.2.2.take _⟩
 . split
   . exact⟨c,((b.cQ 2).take _).take _⟩
   . exact⟨c,((b.cQ 2).take _).aI.2.2.take _⟩
def Fb(s:dz):Prop:=s.pl<=300/\DB s/\∀e∈s.fG,Ks e.1
theorem Be{b:dz}(k:b.pl<=300)(d:(ct b.cU fQ||ct b.cU rq||ct b.cU kE||ct b.cU kh)=false)(c:b.fG=[]/\b.bJ=[]/\b.eY=[]):Fb b:=by simp only[Bool.or_eq_false_iff]at d;have⟨⟨⟨e,f⟩,i⟩,j⟩:=d;refine⟨k,⟨λh=>?_,λh=>?_,λh=>?_,λh=>?_,?_,?_⟩,?_⟩;{rw[e]at h;cases h};{rw[f]at h;cases h};{rw[i]at h;cases h};{rw[j]at h;cases h};{rw[c.2.1,c.2.2];decide};{rw[c.2.1,c.2.2];exact⟨λ_ h=>(by cases h),λ_ h=>(by cases h)⟩};rw[c.1];exactλ_ h=>(by cases h)
theorem IA{b:Nm}(h:nF b):b.1.size<=1000000000:=ay h.1 (by decide)
theorem Ug{m:aD}(b:BZ m):Fb (eE m).1/\BZ (eE m).2:=by
 have f:=b.cE;unfold eE;split;{exact⟨⟨f,⟨λ_=>by simp,λh=>absurd h (show¬ct fQ rq=true by decide),λh=>absurd h (show¬ct fQ kE=true by decide),λh=>absurd h (show¬ct fQ kh=true by decide),⟨aB _,aB _⟩,λ_ h=>(by cases h),λ_ h=>(by cases h)⟩,λj c=>by rw[bj.mp c];exact(xk _ b.aK).1⟩,(xk _ b.aK).2⟩}
 split;{have⟨d,n,e⟩:=qk F2 b.aK;refine⟨⟨f,⟨λh=>absurd h (show¬ct rq fQ=true by decide),λ_=>by simp,λh=>absurd h (show¬ct rq kE=true by decide),λh=>absurd h (show¬ct rq kh=true by decide),⟨?_,aB _⟩,λj c=>?_,λ_ h=>(by cases h)⟩,λj c=>?_⟩,e⟩;{simp only[List.length_map];exact ay (sJ F2 b.aK) (by decide)};{obtain⟨l,k,rfl⟩:=cP.mp c;exact IA (d l k).1};obtain⟨l,k,rfl⟩:=cP.mp c;exact(d l k).2}
 split;{exact⟨Be f (show(ct mT fQ||ct mT rq||ct mT kE||ct mT kh)=false by decide) ⟨rfl,rfl,rfl⟩,((b.aK.aI.2.2.take p8).aI.2.2.take zL).aI.2.2⟩}
 split
 .have t:∀i:Δ Nm×aD,((∀u∈i.1,nF u)/\(Λ i.1)<=302/\BZ i.2)->Fb { fq kh m.cE with bJ:=i.1,eY:=(de kX (i.2.take jl)).1 }/\BZ (de kX (i.2.take jl)).2:=λi ⟨r,s,p⟩=>by
   have⟨d,n,e⟩:=qk Mg (p.take jl);refine⟨⟨f,⟨λh=>absurd h (show¬ct kh fQ=true by decide),λh=>absurd h (show¬ct kh rq=true by decide),λh=>absurd h (show¬ct kh kE=true by decide),λ_=>j9.2 n,⟨ay s (by decide),ay (sJ Mg (p.take jl)) (by decide)⟩,λj c=>IA (r j c),λj c=>IA (d j c)⟩,λ_ h=>(by cases h)⟩,e⟩
  refine t (match m.aK.tk with|.aI _=>fL m.aK|_=>([],m.aK)) ?_;split;{have⟨d,n,e⟩:=qk kA b.aK;exact⟨d,sJ kA b.aK,e⟩};exact⟨λ_ h=>(by cases h),aB _,b.aK⟩
 split;{have⟨d,n,e⟩:=qk D0 b.aK;refine⟨⟨f,⟨λh=>absurd h (show¬ct kE fQ=true by decide),λh=>absurd h (show¬ct kE rq=true by decide),λ_=>by simp,λh=>absurd h (show¬ct kE kh=true by decide),⟨?_,aB _⟩,λj c=>?_,λ_ h=>(by cases h)⟩,λ_ h=>(by cases h)⟩,e⟩;{simp only[List.length_map];exact ay (sJ D0 b.aK) (by decide)};obtain⟨l,k,rfl⟩:=cP.mp c;exact IA (d l k)};simp only;have o:(ct iY fQ||ct iY rq||ct iY kE||ct iY kh)=false:=(by decide);split;{exact⟨Be f o ⟨rfl,rfl,rfl⟩,(b.take iY).aK⟩};exact⟨Be f o ⟨rfl,rfl,rfl⟩,(b.take iY).cQ 2⟩
theorem Uh:∀c b m,BZ m->(∀d∈b,Fb d)->(∀d∈(jc c b m).1,Fb d)/\∃i,(jc c b m).1=b++i:=by
 intro c;induction c with
 |zero=>exactλb m _ e=>⟨e,[],by simp[jc]⟩
 |succ c p=>
  intro b m o e;unfold jc;split
  .have⟨j,k⟩:=Ug o.aK
   have⟨l,i,n⟩:=p (b++[(eE m.aK).1]) _ k (λd f=>by
    rw[bA,bj]at f;rcases f with f|rfl
    . exact e d f
    . exact j)
   exact⟨l,(eE m.aK).1::i,by rw[n];simp⟩
  exact⟨e,[],by simp⟩
def Fc:Bp->Prop
 |.create t cy=>nF t/\cy≠[]/\(∀c∈cy,nF c.1/\c.2<=2)/\(Λ cy)<=302
 |.drop t=>nF t
 |.load t ry=>nF t/\ry≠[]/\(∀r∈ry,uy r)/\(Λ ry)<=302
 |.qM u t cy e _=>nF u/\nF t/\cy≠[]/\(∀n∈cy,nF n)/\(Λ cy)<=302/\tS e/\Ks e
 |.pO u t=>nF u/\nF t
 |.query ss=>∃s r,ss=s::r/\nF s.tj/\s.pl<=300/\(∀x∈r,x.pl<=300)/\∀x∈ss,Fb x
theorem Qo{m:aD}(b:BZ m):Fc (di m).1:=by unfold di;split;{have c:=b.aK.aI.2.2.take du;exact⟨(kA _ b.aK).1,(qk Nv c).2.1,(qk Nv c).1,sJ Nv c⟩};split;{exact(kA _ b.aK).1};split;{have⟨c,e⟩:=Wz _ b.aK.aI.2.2;obtain⟨f,j,-⟩:=acm (kj m.aK.aI.2).2.len [(kj m.aK.aI.2).1] (kj m.aK.aI.2).2 e (λi d=>by simp at d;subst d;exact c) (by simp);have k:=acn (kj m.aK.aI.2).2.len [(kj m.aK.aI.2).1] (kj m.aK.aI.2).2;have n:=e.len;exact⟨(kA _ b.aK).1,j,f,by rw[eC]at k;show List.length _<=302;omega⟩};split;{have c:=(b.aK.aI.2.2.take p8).aI.2.2.take du;exact⟨(kA _ b.aK).1,(kA _ (b.aK.aI.2.2.take p8)).1,(qk kA c).2.1,(qk kA c).1,sJ kA c,VW _,(xk _ (((qk kA c).2.2.take fK).take fQ)).1⟩};split;{exact⟨(kA _ b.aK).1,(kA _ (b.aK.aI.2.2.take p8)).1⟩};have c:=(kA _ (b.take gd)).1;have⟨e,l,f⟩:=Uh (m.take gd).aI.2.len [{ fq gd m.cE with tj:=(m.take gd).aI.1 }] (m.take gd).aI.2 (b.take gd).aI.2.2 (λi d=>by rw[bj.mp d];exact Be b.cE (show(ct gd fQ||ct gd rq||ct gd kE||ct gd kh)=false by decide) ⟨rfl,rfl,rfl⟩);exact⟨_,l,f,c,b.cE,λi d=>(e i (by rw[f];exact List.mem_append_right _ d)).1,e⟩
theorem IB{S:Γ}{b:Bp}(h:lG S=.inl b):Fc b:=by unfold lG at h;split at h;{cases h};rename_i c;simp only at h;split at h;{cases h};{cases h;exact Qo (akn (by omega))};cases h
namespace S
def eu(v w:Nat):Δ Bool:=(List.range w).map v.testBit
theorem cA(b w:Nat):(eu b w).length=w:=by simp[eu]
theorem Qp(b:Nat):eu b 0=[]:=rfl
theorem Qq(b w:Nat):eu b (w+1)=eu b w++[b.testBit w]:=by simp[eu,List.range_succ]
theorem Uk(c w b:Nat)(h:b<w):(eu c w).getD b false=c.testBit b:=by simp[eu,List.getD,h]
structure Lays (bs:Δ Nat)(l:Δ Bool):Prop where
 len:Λ bs=(Λ l+7) / 8
 small:∀b∈bs,b<256
 bit:∀j i,i<8->(bs.getD j 0).testBit i=l.getD (8*j+i) false
structure Ag (bs:Δ Nat)(l:Δ Bool):Prop where
 len:Λ bs=Λ l / 8+1
 small:∀b∈bs,b<256
 bit:∀j i,i<8->(bs.getD j 0).testBit i=l.getD (8*j+i) false
theorem Lays.nil:Lays [] []:=⟨rfl,by simp,by simp⟩
theorem yv{bs:Δ Nat}(h:∀d∈bs,d<256)(c:Nat):bs.getD c 0<256:=by by_cases b:c<Λ bs;{simp only[List.getD,List.getElem?_eq_getElem b,Option.getD_some];exact h _ (ej b)};simp[List.getD,List.getElem?_eq_none (Nat.le_of_not_lt b)]
theorem Qr(h:n<256)(b:8<=u):n.testBit u=false:=by
 apply rU;exact aw h (by
  have:2 ^ 8<=2 ^ u:=eU (by omega) b;omega)
theorem Lays.unique{a:Δ Nat}(c:Lays a x)(d:Lays v x):a=v:=by
 apply List.ext_getElem (by rw[c.len,d.len]);intro b k l;apply Nat.eq_of_testBit_eq;intro e;have i:a.getD b 0=a[b]:=by simp[List.getD,k]
 have j:v.getD b 0=v[b]:=by simp[List.getD,l]
 rw[<- i,<- j];by_cases f:e<8;{rw[c.bit b e f,d.bit b e f]};rw[Qr (yv c.small b) (by omega),Qr (yv d.small b) (by omega)]
theorem Lays.aco{bs:Δ Nat}(h:Lays bs x)(b:Λ x % 8≠0):Ag bs x:=
 ⟨by rw[h.len];omega,h.small,h.bit⟩
theorem Lays.acp{bs:Δ Nat}(h:Lays bs x)(n:Λ x % 8=0):Ag (bs++[0]) x:=by refine⟨by rw[au,h.len];simp;omega,?_,?_⟩;{intro e i;rcases bA.1 i with c|c;{exact h.small e c};simp at c;omega};intro b l j;rw[<- h.bit b l j];by_cases d:b<Λ bs;{simp[List.getD,List.getElem?_append_left d]};have f:bs.getD b 0=0:=(by simp[List.getD,List.getElem?_eq_none (Nat.le_of_not_lt d)]);rw[f];by_cases k:b=Λ bs;{subst k;simp[List.getD]};simp[List.getD,List.getElem?_eq_none (show(bs++[0]).length<=b by simp;omega)]
theorem Ag.put{bs:Δ Nat}(h:Ag bs x)(c:Bool) :
 Lays (bs.set (Λ x / 8) (bs.getD (Λ x / 8) 0 ||| c.toNat*2 ^ (Λ x % 8))) (x++[c]):=by
 have t:c.toNat*2 ^ (Λ x % 8)<256:=(by have:2 ^ (Λ x % 8)<=2 ^ 7:=eU (by omega) (by omega);cases c<;>simp<;>omega);have o:∀b,(c.toNat*2 ^ (Λ x % 8)).testBit b=(decide (b=Λ x % 8)&&c):=(by intro b;cases c;{simp};simp[Nat.testBit_two_pow,eq_comm]);have n:bs.getD (Λ x / 8) 0 ||| c.toNat*2 ^ (Λ x % 8)<256:=
  Nat.or_lt_two_pow (n:=8) (yv h.small _) t
 refine⟨by rw[eP,h.len];simp;omega,?_,?_⟩;{intro p s;rcases iW s with i|i;{exact h.small p i};rw[i];exact n};intro d b k;have u:=h.len;by_cases l:d=Λ x / 8;{subst l;have f:(bs.set (Λ x / 8) (bs.getD (Λ x / 8) 0 ||| c.toNat*2 ^ (Λ x % 8))).getD (Λ x / 8) 0=bs.getD (Λ x / 8) 0 ||| c.toNat*2 ^ (Λ x % 8):=(by simp[List.getD,show Λ x / 8<Λ bs by omega]);rw[f,Nat.testBit_or,h.bit _ b k,o];by_cases j:b=Λ x % 8;{have r:8*(Λ x / 8)+b=Λ x:=(by omega);rw[r];simp[List.getD,j]};simp only[j,decide_false,Bool.false_and,Bool.or_false];by_cases e:8*(Λ x / 8)+b<Λ x;{simp[List.getD,List.getElem?_append_left e]};simp[List.getD,List.getElem?_eq_none (show Λ x<=8*(Λ x / 8)+b by omega),List.getElem?_eq_none (show(x++[c]).length<=8*(Λ x / 8)+b by simp;omega)]};have f:(bs.set (Λ x / 8) (bs.getD (Λ x / 8) 0 ||| c.toNat*2 ^ (Λ x % 8))).getD d 0=bs.getD d 0:=(by simp[List.getD,List.getElem?_set_ne (Ne.symm l)]);rw[f,h.bit d b k];by_cases e:8*d+b<Λ x;{simp[List.getD,List.getElem?_append_left e]};simp[List.getD,List.getElem?_eq_none (show Λ x<=8*d+b by omega),List.getElem?_eq_none (show(x++[c]).length<=8*d+b by simp;omega)]
theorem F3(c b:Nat):(c.testBit b).toNat=c / 2 ^ b % 2:=by rw[Nat.testBit_eq_decide_div_mod_eq];have:=Nat.mod_two_eq_zero_or_one (c / 2 ^ b);rcases this with h|h<;>simp[h]
def D1(s:Γ)(j:Nat):Nat:=(s.data.toList.getD j 0).toNat
theorem acq(c:Γ)(b:Nat):D1 c b<256:=rV _
theorem Nw(b:Γ)(c:Nat)(h:b.size<=c):D1 b c=0:=by
 have d:Λ b.data.toList=b.size:=by rw[dF];rfl
 simp[D1,List.getD,List.getElem?_eq_none (show Λ b.data.toList<=c by omega)]
def tK(s:Γ)(i:Nat):Bool:=(D1 s (i / 8)).testBit (i % 8)
def rd(s:Γ)(u:Nat):Nat->Nat
 |0=>0
 |w+1=>rd s u w ||| (if w<64 then(tK s (u+w)).toNat*2 ^ w else 0)
theorem Qs(b:Γ)(c w:Nat):rd b c w<2 ^ 64:=by induction w with|zero=>simp[rd]|succ w d=>simp only[rd];apply Nat.or_lt_two_pow d;split;{rename_i h;have e:2 ^ w<=2 ^ 63:=eU (by omega) (by omega);have f:(2:Nat) ^ 64=2*2 ^ 63:=(by decide);cases tK b (c+w)<;>simp<;>omega};simp
theorem acr(c:Γ)(d w b:Nat):(rd c d w).testBit b=(decide (b<w)&&decide (b<64)&&tK c (d+b)):=by induction w with|zero=>simp[rd]|succ w j=>simp only[rd,Nat.testBit_or,j];have i:((if w<64 then(tK c (d+w)).toNat*2 ^ w else 0):Nat).testBit b=(decide (w<64)&&decide (b=w)&&tK c (d+w)):=(by split;{rename_i h;cases hs:tK c (d+w);{simp};simp[h,Nat.testBit_two_pow,eq_comm]};rename_i h;simp[h]);rw[i];by_cases e:b=w;{subst e;simp};by_cases f:b<w;{simp[e,f,Nat.lt_succ_of_lt f]};simp[e,f,show¬b<w+1 by omega]
theorem lV(c:Γ)(d w:Nat):rd c d w<2 ^ w:=by apply Nat.lt_pow_two_of_testBit;intro b e;rw[acr];simp[show¬b<w by omega]
def At(s:Γ)(u:Nat)(l:Δ Bool):Prop:=∀i,i<Λ l->tK s (u+i)=l.getD i false
theorem At.nil(b:Γ)(c:Nat):At b c []:=λd h=>by simp at h
theorem At.append{a:Δ Bool}:At i n (a++x)↔At i n a/\At i (n+Λ a) x:=by constructor;{intro h;refine⟨λb c=>?_,λb c=>?_⟩;{rw[h b (by simp;omega)];simp[List.getD,List.getElem?_append_left c]};rw[iH,h (Λ a+b) (by simp;omega)];simp[List.getD,List.getElem?_append_right]};rintro⟨e,f⟩ b c;by_cases d:b<Λ a;{rw[e b d];simp[List.getD,List.getElem?_append_left d]};have:=f (b - Λ a) (by simp at c;omega);rw[iH,show Λ a+(b - Λ a)=b by omega]at this;rw[this];simp[List.getD,List.getElem?_append_right (Nat.le_of_not_lt d)]
theorem mW{w:Nat}(h:At i n (eu u w))(e:w<=64)(d:u<2 ^ w):rd i n w=u:=by apply Nat.eq_of_testBit_eq;intro c;rw[acr];by_cases b:c<w;{have:=h c (by simpa[cA]using b);rw[this,Uk _ _ _ b];simp[b,show c<64 by omega]};rw[rU (aw d (eU (by omega) (by omega)))];simp[b]
theorem Lays.at{bs:Δ Nat}(h:Lays bs x)(d:Γ)(e:∀c,D1 d c=bs.getD c 0):At d 0 x:=by intro b _;simp only[tK,e,Nat.zero_add];rw[h.bit _ _ (by omega),show 8*(b / 8)+b % 8=b by omega]
end S
namespace S
def EP(bs:Δ Nat):Δ υ:=bs.map λ(n:Nat)=>Value.int .u8 (n:Int)
theorem nG{w w':ω}(h:Below w.heap.size w w'):Ψ w w' ν:=⟨h.os,h.tape,h.output,h.size,λc b _=>h.block c b⟩
def lenOf:υ->Nat|.slice _ m _=>m|_=>0
structure Wr (K:Nat->Prop)(w:ω)(p:Nat)(v:υ)(bs:Δ Nat)(l:Δ Bool):Prop where
 lays:Lays bs l
 sl:w.cell? (Ad p 0)=σ v
 used:w.cell? (Ad p 1)=σ (.int .i64 (Λ l:Int))
 f0:w.frozen? (Ad p 0)=false
 f1:w.frozen? (Ad p 1)=false
 own:Φ w 0 5 1 v (Λ bs) (EP bs)
 apart:Ω v≠σ p
 kp:¬K p
 kv:∀g,Ω v=σ g->¬K g
 old:∀k,K k->k<w.heap.size
def eL(K:Nat->Prop)(w:ω)(p:Nat)(l:Δ Bool):Prop:=∃v bs,Wr K w p v bs l
theorem eL.xq{w w':ω}(h:eL p w n x)(c:Ψ w w' ν):eL p w' n x:=by
 have⟨d,bs,h⟩:=h;have f:n<w.heap.size:=bT _ _ h.sl;have b:w'.heap[n]?=w.heap[n]?:=c.block n f (by simp);exact⟨d,bs,h.lays,(dx (w:=w) b).trans h.sl,(dx (w:=w) b).trans h.used,(dI (w:=w) b).trans h.f0,(dI (w:=w) b).trans h.f1,
  h.own.kept c (by cases Ω d<;>simp),h.apart,h.kp,h.kv,λi e=>aw (h.old i e) c.size⟩
theorem eL.alloc{w:ω}(h:eL p w n x)(b:Obj):eL p (w.alloc b) n x:=h.xq (dG w b ν)
theorem eL.drew{w:ω}(h:eL p w n x):eL p w.drew n x:=h.xq ⟨rfl,rfl,rfl,ae _,λ_ _ _=>rfl⟩
theorem eL.old{w:ω}(h:eL p w n x):∀b,p b->b<w.heap.size:=by have⟨c,bs,h⟩:=h;exact h.old
theorem eL.lt{w:ω}(h:eL p w n x):n<w.heap.size:=by have⟨b,bs,h⟩:=h;exact bT _ _ h.sl
theorem eL.also{K':Nat->Prop}{w w':ω}(h:eL p w n x)(j:Ψ w w' ν)(f:∀c,K' c->p c\/(w.heap.size<=c/\c<w'.heap.size)):eL K' w' n x:=by have o:=h.lt;have⟨k,bs,b⟩:=h.xq j;have⟨s,t,e⟩:=h;have l:w'.heap[n]?=w.heap[n]?:=j.block n o (by simp);have r:k=s:=(by have:=((dx (w:=w) (w':=w') (a:=(Ad n 0)) l).trans e.sl).symm.trans b.sl;exact(bh this).symm);subst r;refine⟨k,bs,b.lays,b.sl,b.used,b.f0,b.f1,b.own,b.apart,?_,?_,?_⟩;{intro d;rcases f n d with h|h;{exact e.kp h};omega};{intro g i d;rcases f g d with h|h;{exact e.kv g i h};have:=(e.own.lt g i).2;omega};intro c d;rcases f c d with h|h;{exact b.old c h};exact h.2
theorem eL.less{K':Nat->Prop}{w:ω}(h:eL p w n x)(c:∀b,K' b->p b):eL K' w n x:=
 h.also ⟨rfl,rfl,rfl,ae _,λ_ _ _=>rfl⟩ (λb d=>.inl (c b d))
structure yw (K:Nat->Prop)(w:ω)(p g m cap:Nat)(bs:Δ Nat)(l:Δ Bool):Prop where
 lays:Ag bs l
 len:m=Λ bs
 sl:w.cell? (Ad p 0)=σ (ψ (σ (Ad g 0)) m cap)
 used:w.cell? (Ad p 1)=σ (.int .i64 (Λ l:Int))
 f0:w.frozen? (Ad p 0)=false
 f1:w.frozen? (Ad p 1)=false
 own:Φ w 0 5 1 (ψ (σ (Ad g 0)) m cap) m (EP bs)
 apart:g≠p
 kp:¬K p
 kg:¬K g
 old:∀k,K k->k<w.heap.size
theorem WA{bs:Δ Nat}(h:n<Λ bs):(EP bs)[n]?=σ (ι .u8 ((bs.getD n 0:Nat):Int)):=by simp[EP,List.getD,h]
theorem Wr.slice{w:ω}{bs:Δ Nat}(h:Wr p w n r bs x)(c:0<Λ bs) :
 ∃g b,r=ψ (σ (Ad g 0)) (Λ bs) b:=by rcases h.own.2 with⟨_,h⟩|⟨g,b,_,h,_⟩;{omega};exact⟨g,b,h⟩
theorem Wr.room{w:ω}{bs:Δ Nat}(h:Wr p w n r bs x)(e:Λ x % 8≠0) :
 ∃g b,r=ψ (σ (Ad g 0)) (Λ bs) b/\yw p w n g (Λ bs) b bs x:=by have c:=h.lays.aco e;obtain⟨g,b,rfl⟩:=h.slice (by rw[c.len];omega);exact⟨g,b,rfl,c,rfl,h.sl,h.used,h.f0,h.f1,h.own,λd=>h.apart (by rw[d];rfl),h.kp,h.kv g rfl,h.old⟩
theorem Wr.grown{w:ω}{g:Nat}{bs:Δ Nat}(h:Wr p w n r bs x)(B:Λ x % 8=0)
 (z:Φ t 0 5 1 (ψ (σ (Ad g 0)) (Λ bs+1) u) (Λ bs+1) (EP bs++[ι .u8 0])) (o:(w.alloc s).grownBy t (Ω r))
 (D:Ω r=σ g\/(w.alloc s).heap.size<=g) :
 bu p w t/\t.cell? (Ad n 0)=σ r/\t.frozen? (Ad n 0)=false/\yw p (t.setCell (Ad n 0) (ψ (σ (Ad g 0)) (Λ bs+1) u)) n g (Λ bs+1) u (bs++[0]) x:=by
 have v:Ω r=σ g\/w.heap.size<g:=by rcases D with b|b;exact .inl b;exact .inr (by simp at b;omega)
 have l:bu p w t:=((bu.refl p w).alloc h.old s).grown o (λe d=>by have:=h.old e d;simp;omega) (λe c=>h.kv e c);have E:n<w.heap.size:=bT _ _ h.sl;have f:t.heap[n]?=w.heap[n]?:=(o.block n (by simp;omega) (λc=>h.apart c.symm)).trans (dA _ _ _ E);have j:=(dx (w:=w) (w':=t) (a:=(Ad n 0)) f).trans h.sl;have y:=(dx (w:=w) (w':=t) (a:=(Ad n 1)) f).trans h.used;have k:=(dI (w:=w) (w':=t) (a:=(Ad n 0)) f).trans h.f0;have A:=(dI (w:=w) (w':=t) (a:=(Ad n 1)) f).trans h.f1;have i:g≠n:=(by rcases v with b|b;{intro c;subst c;exact h.apart b};omega);have C:¬p g:=(by rcases v with b|b;{exact h.kv g b};intro d;have:=h.old g d;omega);refine⟨l,j,k,h.lays.acp B,by simp,nu _ _ _ j,?_,?_,?_,?_,i,h.kp,C,?_⟩;{rw[kr _ _ _ _ (by simp)];exact y};{rw[jk];exact k};{rw[jk];exact A};{have c:EP (bs++[0])=EP bs++[ι .u8 0]:=(by simp[EP]);rw[c];exact z.kept (grownBy_setCell _ (Ad n 0) _) (.inr (by simp[Value.ownBlock,i]))};intro e d;have:=l.size;have:=h.old e d;simp[World.setCell];omega
theorem yw.cell{b:Nat->Prop}{w:ω}{p g m:Nat}{bs:Δ Nat}(h:yw b w p g m n bs x) :
 w.cell? (Ad g (Λ x / 8))=σ (ι .u8 ((bs.getD (Λ x / 8) 0:Nat):Int))/\w.frozen? (Ad g (Λ x / 8))=false/\(Λ x) / 8<m/\bs.getD (Λ x / 8) 0<256:=by have c:=h.lays.len;have d:=h.len;refine⟨?_,h.own.frozenAt _,by omega,yv h.lays.small _⟩;rw[h.own.cellAt _ (by omega),WA (by omega)]
theorem yw.done{w:ω}{g m:Nat}{bs:Δ Nat}(h:yw p w n g m u bs x)(b:Bool)(e:Int)
 (l:e=((bs.getD (Λ x / 8) 0 ||| b.toNat*2 ^ (Λ x % 8):Nat):Int)) (f:Int) (o:f=((Λ x+1:Nat):Int)) :
 eL p ((w.setCell (Ad g (Λ x / 8)) (ι .u8 e)).setCell (Ad n 1) (.int .i64 f)).drew n (x++[b]):=by subst l o;have k:=h.len;subst k;obtain⟨t,_⟩:=h.own.stored (Λ x / 8) (ι .u8 ((bs.getD (Λ x / 8) 0 ||| b.toNat*2 ^ (Λ x % 8):Nat):Int));have r:((Ad g (Λ x / 8)):Addr)≠(Ad n 1):=λc=>h.apart (bI Addr.block c);have i:((Ad g (Λ x / 8)):Addr)≠(Ad n 0):=λc=>h.apart (bI Addr.block c);refine⟨ψ (σ (Ad g 0)) (Λ bs) u,bs.set (Λ x / 8) (bs.getD (Λ x / 8) 0 ||| b.toNat*2 ^ (Λ x % 8)),h.lays.put b,?_,?_,?_,?_,?_,?_,h.kp,?_,?_⟩;{show World.cell? (World.setCell _ _ _) _=_;rw[kr _ _ _ _ (by simp),kr _ _ _ _ i];exact h.sl};{show World.cell? (World.setCell _ _ _) _=_;rw[au];exact nu _ _ _ ((kr _ _ _ _ r).trans h.used)};{show World.frozen? (World.setCell _ _ _) _=_;rw[jk,jk];exact h.f0};{show World.frozen? (World.setCell _ _ _) _=_;rw[jk,jk];exact h.f1};{have c:EP (bs.set (Λ x / 8) (bs.getD (Λ x / 8) 0 ||| b.toNat*2 ^ (Λ x % 8)))=(EP bs).set (Λ x / 8) (ι .u8 ((bs.getD (Λ x / 8) 0 ||| b.toNat*2 ^ (Λ x % 8):Nat):Int)):=(by simp only[EP,List.map_set]);rw[c,eP];exact(t.kept (grownBy_setCell _ (Ad n 1) _) (.inr (by simp[Value.ownBlock,h.apart]))).drew};{simp[Value.ownBlock,h.apart]};{intro v d;simp[Value.ownBlock]at d;subst d;exact h.kg};intro s j;have:=h.old s j;simpa[World.setCell]using this
theorem yw.keeps{w:ω}{g m:Nat}{bs:Δ Nat}(h:yw p w n g m u bs x)(b:bu p t w)(c:Nat)(d e:υ) :
 bu p t ((w.setCell (Ad g c) d).setCell (Ad n 1) e).drew:=
 ((b.setCell h.kg _).setCell h.kp _).drew
theorem YA(old c b d:Nat)(r:old<256)(e:c<18446744073709551616) :
 bits BinOp.or IntKind.u8 (old:Int) (bits BinOp.and IntKind.u64 ((c:Int) / 2 ^ min b 64) 1 % 256*2 ^ (d % 8) % 256)=((old ||| (c.testBit b).toNat*2 ^ (d % 8):Nat):Int):=by
 have i:(c:Int) / 2 ^ min b 64=((c / 2 ^ min b 64:Nat):Int):=(by rw[Int.natCast_ediv];congr 1);have f:c / 2 ^ min b 64<18446744073709551616:=bY (Nat.div_le_self _ _) e;have j:bits BinOp.and IntKind.u64 ((c / 2 ^ min b 64:Nat):Int) 1=((c / 2 ^ min b 64 &&& 1:Nat):Int):=u64_and_nat _ 1 f (by omega);have k:c / 2 ^ min b 64 &&& 1=(c.testBit b).toNat:=by
  rw[vz];by_cases p:b<=64;{rw[jv p,F3]}
  rw[sX (by omega),rU (aw e (show 18446744073709551616<=2 ^ b from by
   have:(2:Nat) ^ 64<=2 ^ b:=eU (by omega) (by omega);simpa using this))]
  have:c / 2 ^ 64=0:=Nat.div_eq_of_lt (by simpa using e);simp[this]
 have s:(c.testBit b).toNat*2 ^ (d % 8)<256:=(by have:2 ^ (d % 8)<=2 ^ 7:=eU (by omega) (by omega);cases c.testBit b<;>simp<;>omega);have l:((c.testBit b).toNat:Int) % 256*2 ^ (d % 8) % 256=(((c.testBit b).toNat*2 ^ (d % 8):Nat):Int):=(by have n:((c.testBit b).toNat:Int) % 256=((c.testBit b).toNat:Int):=(by cases c.testBit b<;>simp);rw[n];have o:((c.testBit b).toNat:Int)*2 ^ (d % 8)=(((c.testBit b).toNat*2 ^ (d % 8):Nat):Int):=(by rw[Int.natCast_mul,Int.natCast_pow];rfl);rw[o];exact Int.emod_eq_of_lt (by omega) (by omega));rw[i,j,k,l];exact u8_or_nat _ _ r s
end S
namespace S
structure Cl where
 bH:Bool
 n:Int
 s:Γ
theorem Cl.ext'{a b:Cl}(c:a.bH=b.bH)(d:a.n=b.n)(e:a.s=b.s):a=b:=by cases a;cases b;simp_all
def dK(n:Int):Prop:=-9223372036854775808<=n/\n<=9223372036854775807
def uU(n:Int):Nat:=if n<0 then(2*(-n - 1)+1).toNat else(2*n).toNat
def rH(f:Nat):Int:=if f % 2=1 then -((f / 2:Nat):Int) - 1 else((f / 2:Nat):Int)
theorem Ah(h:dK b):uU b<18446744073709551616:=by unfold uU;unfold dK at h;split<;>omega
theorem Qt(b:Int):rH (uU b)=b:=by unfold rH uU;by_cases h:b<0;{rw[aN h,aN (by omega)];omega};rw[aH h,aH (by omega)];omega
theorem Qu(h:n<18446744073709551616):dK (rH n):=by unfold rH dK;split<;>omega
theorem Fe(b:Nat):b<2 ^ bitLen b:=(bitLen_spec b).1
theorem bitLen_le(b c:Nat)(h:b<2 ^ c):bitLen b<=c:=by by_cases e:b=0;{subst e;simp[bitLen]};have f:=(bitLen_spec b).2 e;rcases lO c (bitLen b)with d|d;{have:2 ^ c<=2 ^ (bitLen b - 1):=eU (by omega) (by omega);omega};exact d
theorem nT(h:n<18446744073709551616):bitLen n<=64:=bitLen_le n 64 (by simpa using h)
theorem Qv(m:Nat)(h:m<18446744073709551616):18446744073709551615 ^^^ m=18446744073709551615 - m:=by have b:=bI BitVec.toNat (BitVec.allOnes_xor (x:=BitVec.ofNat 64 m));rw[BitVec.toNat_xor,BitVec.toNat_not,BitVec.toNat_allOnes,BitVec.toNat_ofNat,xT (by simpa using h)]at b;simpa using b
theorem acs(b:Int)(h:dK b)(j:b<0) :
 bits BinOp.or IntKind.u64 (IntKind.u64.wrap (bits BinOp.xor IntKind.u64 IntKind.u64.max (IntKind.u64.wrap b)*2)) 1=((uU b:Nat):Int):=by
 have k:=h;unfold dK at h;have d:IntKind.u64.wrap b=(((b+18446744073709551616).toNat:Nat):Int):=by rw[iO];omega
 have e:IntKind.u64.max=((18446744073709551615:Nat):Int):=by decide
 rw[d,e,u64_xor_nat _ _ (by omega) (by omega),Qv _ (by omega),iO];have f:((18446744073709551615 - (b+18446744073709551616).toNat:Nat):Int)*2 % 18446744073709551616=((2*(-b - 1).toNat:Nat):Int):=by omega
 rw[f];have c:=u64_or_nat (2*(-b - 1).toNat) 1 (by omega) (by omega);have i:(2*(-b - 1).toNat) ||| 1=2*(-b - 1).toNat+1:=(by have:=nat_join 1 (2*(-b - 1).toNat) 1 (by omega) (by omega);exact this);rw[i]at c;refine c.trans ?_;unfold uU;rw[aN j];omega
theorem KS(b:UInt8):IntKind.u64.wrap (b.toNat:Int)=(b.toNat:Int):=by have:=rV b;rw[iO];omega
def qG(n:Int):Δ Bool:=eu (bitLen (uU n)+1) 8++eu (uU n) (bitLen (uU n))
def kB(wd:Nat)(bs:Δ UInt8):Δ Bool:=bs.flatMap λb=>eu b.toNat wd
def lM(k:Int)(c:Cl):Δ Bool:=
 if c.bH then eu 0 8 else if k=1 then eu (c.s.size+1) 8++kB 8 c.s.data.toList else qG c.n
theorem mO(b:Nat)(bs:Δ UInt8):(kB b bs).length=Λ bs*b:=by induction bs with|nil=>simp[kB]|cons c d f=>have e:kB b (c::d)=eu c.toNat b++kB b d:=rfl;rw[e,au,f,cA,cw,rS];omega
theorem B0(b:Nat)(bs:Δ UInt8)(c:UInt8):kB b (bs++[c])=kB b bs++eu c.toNat b:=by simp[kB,List.flatMap_append]
theorem jC(b:Γ):Λ b.data.toList=b.size:=by rw[dF];rfl
theorem wE(b:Int):(qG b).length=8+bitLen (uU b):=by simp[qG,cA]
theorem IE(d:Int)(b:Cl)(c:dK b.n):(lM d b).length<=72+8*b.s.size:=by unfold lM;have h:=nT (Ah c);split;{simp[cA];omega};split;{simp only[List.length_append,cA,mO,jC];omega};rw[wE];omega
def rdStr(s:Γ)(u wd:Nat):Nat->Δ UInt8
 |0=>[]
 |n+1=>rdStr s u wd n++[UInt8.ofNat (rd s (u+n*wd) wd % 256)]
theorem mX(d:Γ)(e f b:Nat):(rdStr d e f b).length=b:=by induction b with|zero=>rfl|succ b c=>simp[rdStr,c]
def fg(s:Γ)(k:Int)(u:Nat):Cl×Nat:=
 if rd s u 8=0 then(⟨true,0,ByteArray.empty⟩,u+8)
 else if k=1 then(⟨false,0,⟨(rdStr s (u+8) 8 (rd s u 8 - 1)).toArray⟩⟩,u+8+(rd s u 8 - 1)*8)
 else(⟨false,rH (rd s (u+8) (rd s u 8 - 1)),ByteArray.empty⟩,u+8+(rd s u 8 - 1))
def zm(k:Int)(c:Cl):Prop:=
 dK c.n/\(if c.bH then c.n=0/\c.s=ByteArray.empty
  else if k=0 then c.s=ByteArray.empty
  else if k=1 then c.n=0/\c.s.size<=12/\∀b∈c.s.data.toList,32<=b.toNat/\b.toNat<=126/\b.toNat≠39
  else if k=2 then c.s=ByteArray.empty/\(c.n=0\/c.n=1)
  else False)
theorem F4{s:Γ}{u wd:Nat}(bs:Δ UInt8)(l:wd<=64)(i:∀f∈bs,f.toNat<2 ^ wd) :
 ∀b,b<=Λ bs->At s u (kB wd (bs.take b))->rdStr s u wd b=bs.take b:=by intro b;induction b with|zero=>(intro _ _;rfl)|succ b n=>intro k c;have d:bs.take (b+1)=bs.take b++[bs[b]]:=(by rw[jU k]);rw[d,B0,At.append]at c;rw[d,rdStr,n (by omega) c.1];have j:(kB wd (bs.take b)).length=b*wd:=(by rw[mO,bZ,jv (by omega)]);have e:=c.2;rw[j]at e;rw[mW e l (i _ (ej _))];congr 2;have:=rV bs[b];rw[xT (by omega)];exact UInt8.ofNat_toNat
theorem Nx{s:Γ}{u:Nat}{d:Cl}(c:zm b d)(e:At s u (lM b d)) :
 fg s b u=(d,u+(lM b d).length):=by
 have⟨v,c⟩:=c;have p:=Ah v;have x:=nT p;unfold lM at e ⊢;by_cases i:d.bH=true;{rw[aN i]at e c ⊢;unfold fg;rw[aN (mW e (by omega) (by omega)),cA];refine bI (λy=>(y,u+8)) (Cl.ext' i.symm ?_ ?_);{exact c.1.symm};exact c.2.symm}
 rw[aH i]at e c ⊢;have l:d.bH=false:=by simpa using i
 by_cases j:b=1
 .subst j;rw[aN rfl]at e ⊢;rw[aH (by omega),aN rfl]at c;rw[At.append,cA]at e;have f:=mW e.1 (by omega) (by have:=c.2.1;omega);unfold fg;rw[aH (by rw[f];omega),aN rfl,f];have n:=F4 (s:=s) (u:=u+8) (wd:=8) d.s.data.toList (by omega) (λt _=>rV t) d.s.size (by rw[jC];omega)
   (by rw[aQ (by rw[jC];omega)];exact e.2)
  rw[aQ (by rw[jC];omega)]at n;rw[show d.s.size+1 - 1=d.s.size from rfl,n];simp only[List.length_append,cA,mO,jC];refine xQ (Cl.ext' l.symm c.1.symm rfl) (by omega)
 rw[aH j]at e ⊢;unfold qG at e ⊢;rw[At.append,cA]at e;have f:=mW e.1 (by omega) (by omega);unfold fg;rw[aH (by rw[f];omega),aH j,f,show bitLen (uU d.n)+1 - 1=bitLen (uU d.n)from rfl,mW e.2 x (Fe _),Qt];simp only[List.length_append,cA];have r:d.s=ByteArray.empty:=(by by_cases k:b=0;{rw[aN k]at c;exact c};rw[aH k,aH j]at c;by_cases o:b=2;{rw[aN o]at c;exact c.1};rw[aH o]at c;exact c.elim);refine xQ (Cl.ext' l.symm rfl r.symm) (by omega)
end S
