import Derived.Test.YtcoaphfimellcaaGreatDoorQZZ
set_option maxHeartbeats 0
set_option maxRecDepth 100000
namespace Go.Proofs.YtcoaphfimellcaaGreatDoor
open Go.RowKit
open Option renaming some→σ,none→ν
open Go renaming World→ω,Value→υ
open Go.RowKit renaming Below→δ
open Go.Value renaming slice→ψ
variable{w m:ω}{p:Nat->Prop}{x:List ByteArray}{v:Nat}{n i:Obj}{l:Prop}
def bs(l:List UInt8):ByteArray:=⟨⟨l⟩⟩
def cK(n:Int):Prop:=-9223372036854775808<=n/\n<=9223372036854775807
def iZ(x y:ByteArray):Bool:=decide (x.data=y.data)
theorem jE{a b:ByteArray}:iZ a b=true↔a=b:=by unfold iZ;rw[dt];exact⟨λh=>by cases a;cases b;simp at h;rw[h],λh=>by rw[h]⟩
inductive Tk where
 | stop | bad
 | word (s:ByteArray) | name (s:ByteArray) | num (n:Nat) | str (s:ByteArray) | sign (s:ByteArray)
structure Tok where
 k:Tk
 pl:Nat
def iI(n:Nat):Bool:=decide (97<=n)&&decide (n<=122)
def kE(n:Nat):Bool:=decide (48<=n)&&decide (n<=57)
def dh(c:UInt8):Bool:=iI c.toNat
def dk(c:UInt8):Bool:=kE c.toNat
def fq(c:UInt8):Bool:=decide (32<=c.toNat)&&decide (c.toNat<=126)&&!decide (c.toNat=39)
def cz(c:UInt8):Bool:=decide (c.toNat=32)
def aS(S:ByteArray)(f:UInt8->Bool)(i:Nat):Nat:=
 if h:i<S.size then(if f S[i]then aS S f (i+1)else i)else i
 termination_by S.size - i
theorem fl(S:ByteArray)(b:UInt8->Bool)(a:Nat):a<=aS S b a:=by
 rw[aS];split
 . split
   . exact ag (bE a) (fl S b (a+1))
   . exact ae _
 . exact ae _
 termination_by S.size - a
theorem fV(S:ByteArray)(b:UInt8->Bool)(a:Nat)(c:a<=S.size):aS S b a<=S.size:=by
 rw[aS];split
 . split
   . exact fV S b (a+1) (by omega)
   . exact c
 . exact c
 termination_by S.size - a
theorem iJ(S:ByteArray)(b:UInt8->Bool)(a:Nat)(h:a<S.size)(c:b S[a]=true):aS S b a=aS S b (a+1):=by rw[aS,jH h,aF c]
theorem mU(S:ByteArray)(b:UInt8->Bool)(a:Nat)(h:a<S.size)(c:b S[a]=false):aS S b a=a:=by rw[aS,jH h,aE (by simp[c])]
theorem nT(S:ByteArray)(b:UInt8->Bool)(a:Nat)(h:¬a<S.size):aS S b a=a:=by rw[aS,ox h]
def nK(l:List UInt8):Nat:=l.foldl (λn c=>n*10+(c.toNat - 48)) 0
def cC:List ByteArray:=
 [bs [102,114,111,109],bs [119,104,101,114,101],bs [109,97,112],bs [106,111,105,110],bs [111,110],bs [103,114,111,117,112],
  bs [111,114,100,101,114],bs [100,111,119,110],bs [108,105,109,105,116],bs [99,114,101,97,116,101],bs [100,114,111,112],bs [108,111,97,100],
  bs [103,114,97,110,116],bs [114,101,118,111,107,101],bs [97,110,100],bs [111,114],bs [110,111,116],bs [105,115],bs [110,117,108,108],
  bs [116,114,117,101],bs [102,97,108,115,101],bs [105,110,116],bs [115,116,114],bs [98,111,111,108],bs [99,111,117,110,116],bs [115,117,109],
  bs [109,105,110],bs [109,97,120]]
def eI(S:ByteArray)(i:Nat)(h:i<S.size):Nat:=
 let c:=S[i].toNat
 let d:=if h2:i+1<S.size then S[i+1].toNat else 0
 if(c=60/\(d=62\/d=61))\/(c=62/\d=61)then 2
 else if c∈[40,41,44,124,58,61,60,62,43,45,42,47,37]then 1 else 0
theorem Bh(S:ByteArray)(a:Nat)(h:a<S.size):eI S a h<=2/\(eI S a h=2->a+1<S.size):=by unfold eI;generalize hd:(if e:a+1<S.size then S[a+1].toNat else 0)=d;simp only;by_cases b:(S[a].toNat=60/\(d=62\/d=61))\/(S[a].toNat=62/\d=61);{rw[aF b];refine⟨ae _,λ_=>?_⟩;apply gJ;intro c;rw[ox c]at hd;omega};rw[aE b];split<;>simp
def fN(S:ByteArray)(i:Nat)(h:i<S.size):Tk×Nat:=
 if dh S[i]then
  let e:=aS S dh i
  let w:=S.extract i e
  if 8<e - i then(.bad,e)else if cC.any (iZ w)then(.word w,e)else(.name w,e)
 else if dk S[i]then
  let e:=aS S dk i
  let n:=nK (S.extract i e).data.toList
  if 19<e - i\/9223372036854775807<n then(.bad,e)else(.num n,e)
 else if S[i].toNat=39 then
  let e:=aS S fq (i+1)
  if h2:e<S.size then(if S[e].toNat=39/\e - i - 1<=12 then(.str (S.extract (i+1) e),e+1)else(.bad,i+2))else(.bad,i+2)
 else
  let n:=eI S i h
  if n=0 then(.bad,i)else(.sign (S.extract i (i+n)),i+n)
def Tk.ends:Tk->Bool
 |.stop=>true|.bad=>true|_=>false
theorem rF(S:ByteArray)(a:Nat)(h:a<S.size)(b:(fN S a h).1.ends=false):a<(fN S a h).2/\(fN S a h).2<=S.size:=by revert b;rw[fN];split;{rename_i c;have f:=iJ S dh a h c;have d:=fl S dh (a+1);have e:=fV S dh a (by omega);simp only;split;{intro b;simp[Tk.ends]at b};split<;>(intro _;simp only;omega)};split;{rename_i c;have f:=iJ S dk a h c;have d:=fl S dk (a+1);have e:=fV S dk a (by omega);simp only;split;{intro b;simp[Tk.ends]at b};intro _;simp only;omega};split;{simp only;split;{split;{intro _;have d:=fl S fq (a+1);simp only;omega};intro b;simp[Tk.ends]at b};intro b;simp[Tk.ends]at b};simp only;split;{intro b;simp[Tk.ends]at b};intro _;have e:=Bh S a h;simp only;omega
def fM(S:ByteArray)(i:Nat):List Tok:=
 let j:=aS S cz i
 if h:j<S.size then
  (if _hk:(fN S j h).1.ends then[⟨.bad,j⟩]else⟨(fN S j h).1,j⟩::fM S (fN S j h).2)
 else[⟨.stop,S.size⟩]
 termination_by S.size - i
 decreasing_by
 have h1:=fl S cz i;have h2:=(rF S (aS S cz i) h (by simpa using _hk)).1;omega
theorem Cc(S:ByteArray)(a:Nat):fM S a≠[]:=by rw[fM];split;{split<;>simp};simp
inductive Mode where
 | live (t:Tok) (ts:List Tok)
 | dead (e b:Nat)
def Mode.of:List Tok->Mode
 |t::ts=>.live t ts
 |[]=>.live ⟨.stop,0⟩ []
def Mode.next:Mode->Mode
 |.live _ (u::us)=>.live u us
 |m=>m
def Mode.place:Mode->Nat
 |.live t _=>t.pl
 |.dead _ _=>0
def Mode.fail(e b:Nat):Mode->Mode
 |.live _ _=>.dead e b
 |m=>m
def Mode.wrong(e:Nat)(m:Mode):Mode:=m.fail e m.place
def Mode.tk:Mode->Tk
 |.live t _=>t.k
 |.dead _ _=>.bad
def Mode.is(s:ByteArray)(m:Mode):Bool:=
 match m.tk with
 |.word x=>iZ x s
 |.sign x=>iZ x s
 |_=>false
def Mode.take(s:ByteArray)(m:Mode):Mode:=if m.is s then m.next else m.wrong 2
def Mode.name(m:Mode):(ByteArray×Nat)×Mode:=
 match m.tk with
 |.name x=>((x,m.place),m.next)
 |_=>((ByteArray.empty,0),m.wrong 2)
def Mode.len:Mode->Nat
 |.live _ ts=>ts.length+1
 |.dead _ _=>0
inductive Ex where
 | num (n:Nat) | str (s:ByteArray) | bool (b:Bool) | col (s:ByteArray) (a:Nat)
 | neg (a:Nat) (x:Ex) | not (a:Nat) (x:Ex) | kG (no:Bool) (a:Nat) (x:Ex)
 | two (op:ByteArray) (a:Nat) (x y:Ex)
 | junk
def lY(link:Mode->Ex×Mode)(ops:List ByteArray):Nat->Ex->Mode->Ex×Mode
 |0,x,m=>(x,m)
 |n+1,x,m=>match ops.find? (λo=>m.is o)with
   |some o=>lY link ops n (.two o m.place x (link m.next).1) (link m.next).2
   |none=>(x,m)
structure AK where
 expr:Mode->Ex×Mode
 Lw:Mode->Ex×Mode
 turn:Mode->Ex×Mode
def dA:ByteArray:=bs [40]
def fG:ByteArray:=bs [41]
def p8:ByteArray:=bs [45]
def Cd:ByteArray:=bs [116,114,117,101]
def wH:ByteArray:=bs [102,97,108,115,101]
def DC:ByteArray:=bs [110,111,116]
def uq:ByteArray:=bs [110,117,108,108]
def kIs:ByteArray:=bs [105,115]
def ur:List ByteArray:=[bs [42],bs [47],bs [37]]
def tf:List ByteArray:=[bs [43],bs [45]]
def ll:List ByteArray:=[bs [61],bs [60,62],bs [60],bs [60,61],bs [62],bs [62,61]]
def zJ:List ByteArray:=[bs [97,110,100]]
def zK:List ByteArray:=[bs [111,114]]
def jJ(sub:Option AK)(m:Mode):Ex×Mode:=
 if m.is dA then
  match sub with
  |none=>(.junk,m.wrong 3)
  |some l=>((l.expr m.next).1,(l.expr m.next).2.take fG)
 else match m.tk with
  |.num n=>(.num n,m.next)
  |.str s=>(.str s,m.next)
  |.name s=>(.col s m.place,m.next)
  |.word s=>if iZ s Cd then(.bool true,m.next)else if iZ s wH then(.bool false,m.next)else(.junk,m.wrong 2)
  |_=>(.junk,m.wrong 2)
def iE(sub:Option AK)(m:Mode):Ex×Mode:=
 if m.is p8 then
  match sub with
  |none=>(.junk,m.wrong 3)
  |some l=>(.neg m.place (l.turn m.next).1,(l.turn m.next).2)
 else jJ sub m
def tg(link:Mode->Ex×Mode)(ops:List ByteArray)(m:Mode):Ex×Mode:=lY link ops (link m).2.len (link m).1 (link m).2
def AL(sub:Option AK):Mode->Ex×Mode:=tg (iE sub) ur
def ji(sub:Option AK):Mode->Ex×Mode:=tg (AL sub) tf
def oD(sub:Option AK)(m:Mode):Ex×Mode:=
 let r:=ji sub m
 match ll.find? (λo=>r.2.is o)with
 |some o=>(.two o r.2.place r.1 (ji sub r.2.next).1,(ji sub r.2.next).2)
 |none=>
   if r.2.is kIs then
    (.kG (r.2.next.is DC) r.2.place r.1,(if r.2.next.is DC then r.2.next.next else r.2.next).take uq)
   else r
def iK(sub:Option AK)(m:Mode):Ex×Mode:=
 if m.is DC then
  match sub with
  |none=>(.junk,m.wrong 3)
  |some l=>(.not m.place (l.Lw m.next).1,(l.Lw m.next).2)
 else oD sub m
def AO(sub:Option AK):Mode->Ex×Mode:=tg (iK sub) zJ
def mO(sub:Option AK):Mode->Ex×Mode:=tg (AO sub) zK
def amj(sub:Option AK):AK:=⟨mO sub,iK sub,iE sub⟩
def lvl:Nat->Option AK
 |0=>ν
 |d+1=>σ (amj (lvl d))
abbrev Nm:=ByteArray×Nat
structure Al where
 pl:Nat
 kind:Int
 null:Bool
 n:Int
 s:ByteArray
structure uU where
 pl:Nat
 vals:List Al
structure Zp where
 name:Nm
 fn:ByteArray
 pl:Nat
 ov:Nm
 bare:Bool
structure gx where
 word:ByteArray
 pl:Nat
 table:Nm
 names:List Nm
 exprs:List (Ex×Nat)
 left:Nm
 right:Nm
 eq:Nat
 made:List Zp
 down:List Bool
 n:Nat
inductive Bi where
 | create (t:Nm) (cols:List (Nm×Nat))
 | drop (t:Nm)
 | load (t:Nm) (rows:List uU)
 | vB (user table:Nm) (cols:List Nm) (cond:Ex) (first:Nat)
 | wI (user table:Nm)
 | query (eQ:List gx)
def qa:ByteArray:=bs [44]
def QO:ByteArray:=bs [124]
def iB:ByteArray:=bs [58]
def xO:ByteArray:=bs [61]
def aic:ByteArray:=bs [105,110,116]
def aid:ByteArray:=bs [115,116,114]
def Ui:ByteArray:=bs [98,111,111,108]
def yr:ByteArray:=bs [111,110]
def kH:ByteArray:=bs [119,104,101,114,101]
def r9:ByteArray:=bs [109,97,112]
def xP:ByteArray:=bs [106,111,105,110]
def ti:ByteArray:=bs [103,114,111,117,112]
def uV:ByteArray:=bs [111,114,100,101,114]
def Uj:ByteArray:=bs [100,111,119,110]
def ej:ByteArray:=bs [108,105,109,105,116]
def sG:ByteArray:=bs [99,114,101,97,116,101]
def EH:ByteArray:=bs [100,114,111,112]
def Gt:ByteArray:=bs [108,111,97,100]
def DE:ByteArray:=bs [103,114,97,110,116]
def Ce:ByteArray:=bs [114,101,118,111,107,101]
def kW:ByteArray:=bs [102,114,111,109]
def kI:ByteArray:=bs [99,111,117,110,116]
def Am:ByteArray:=bs [115,117,109]
def Bj:ByteArray:=bs [109,105,110]
def Cf:ByteArray:=bs [109,97,120]
def jT{α:Type}(one:Mode->α×Mode):Nat->List α->Mode->List α×Mode
 |0,l,m=>(l,m)
 |n+1,l,m=>if m.is qa then jT one n (l++[(one m.next).1]) (one m.next).2 else(l,m)
def dc{α:Type}(one:Mode->α×Mode)(m:Mode):List α×Mode:=jT one (one m).2.len [(one m).1] (one m).2
def jK:Mode->List Nm×Mode:=dc Mode.name
def qJ(m:Mode):Nat×Mode:=if m.is aic then(0,m.next)else if m.is aid then(1,m.next)else(2,m.take Ui)
def tj(m:Mode):(Nm×Nat)×Mode:=((m.name.1,(qJ m.name.2).1),(qJ m.name.2).2)
def Ns:Al:=⟨0,0,false,0,ByteArray.empty⟩
def jk(m:Mode):Al×Mode:=
 if m.is p8 then
  match m.next.tk with
  |.num n=>(⟨m.place,0,false,-(n:Int),ByteArray.empty⟩,m.next.next)
  |_=>(Ns,m.next.wrong 2)
 else match m.tk with
  |.num n=>(⟨m.place,0,false,n,ByteArray.empty⟩,m.next)
  |.str s=>(⟨m.place,1,false,0,s⟩,m.next)
  |_=>
    if m.is Cd then(⟨m.place,2,false,1,ByteArray.empty⟩,m.next)
    else if m.is wH then(⟨m.place,2,false,0,ByteArray.empty⟩,m.next)
    else if m.is uq then(⟨m.place,-1,true,0,ByteArray.empty⟩,m.next)
    else(Ns,m.wrong 2)
def j6(m:Mode):uU×Mode:=(⟨m.place,(dc jk (m.take dA)).1⟩,(dc jk (m.take dA)).2.take fG)
def mC:Nat->List uU->Mode->List uU×Mode
 |0,l,m=>(l,m)
 |n+1,l,m=>if m.is dA then mC n (l++[(j6 m).1]) (j6 m).2 else(l,m)
def oT(m:Mode):(Ex×Nat)×Mode:=(((mO (lvl 8) m).1,m.place),(mO (lvl 8) m).2)
def ku(m:Mode):Zp×Mode:=
 let m1:=m.name.2.take xO
 let known:=m1.is kI||m1.is Am||m1.is Bj||m1.is Cf
 let fn:=match m1.tk with
  |.word s=>s
  |.sign s=>s
  |_=>ByteArray.empty
 let m2:=(if known then m1.next else m1.wrong 2).take dA
 if m1.is kI&&m2.is fG then(⟨m.name.1,fn,m1.place,(ByteArray.empty,0),true⟩,m2.take fG)
 else(⟨m.name.1,fn,m1.place,m2.name.1,false⟩,m2.name.2.take fG)
def eL(m:Mode):(Nm×(Ex×Nat))×Mode:=((m.name.1,(oT (m.name.2.take xO)).1),(oT (m.name.2.take xO)).2)
def ek(m:Mode):(Nm×Bool)×Mode:=((m.name.1,m.name.2.is Uj),if m.name.2.is Uj then m.name.2.next else m.name.2)
def bare(w:ByteArray)(pl:Nat):gx:=⟨w,pl,(ByteArray.empty,0),[],[],(ByteArray.empty,0),(ByteArray.empty,0),0,[],[],0⟩
def dp(m:Mode):gx×Mode:=
 if m.is kH then({ bare kH m.place with exprs:=[(oT m.next).1] },(oT m.next).2)
 else if m.is r9 then({ bare r9 m.place with names:=(dc eL m.next).1.map (·.1),exprs:=(dc eL m.next).1.map (·.2) },(dc eL m.next).2)
 else if m.is xP then
  let t:=m.next.name
  let l:=(t.2.take yr).name
  let r:=(l.2.take xO).name
  ({ bare xP m.place with table:=t.1,left:=l.1,right:=r.1,eq:=l.2.place },r.2)
 else if m.is ti then
  let keys:List Nm×Mode:=match m.next.tk with
   |.name _=>jK m.next
   |_=>([],m.next)
  ({ bare ti m.place with names:=keys.1,made:=(dc ku (keys.2.take iB)).1 },(dc ku (keys.2.take iB)).2)
 else if m.is uV then({ bare uV m.place with names:=(dc ek m.next).1.map (·.1),down:=(dc ek m.next).1.map (·.2) },(dc ek m.next).2)
 else
  let m1:=m.take ej
  match m1.tk with
  |.num n=>({ bare ej m.place with n:=n },m1.next)
  |_=>(bare ej m.place,m1.wrong 2)
def gN:Nat->List gx->Mode->List gx×Mode
 |0,l,m=>(l,m)
 |n+1,l,m=>if m.is QO then gN n (l++[(dp m.next).1]) (dp m.next).2 else(l,m)
def cD(m:Mode):Bi×Mode:=
 if m.is sG then
  let t:=m.next.name
  let c:=dc tj (t.2.take dA)
  (.create t.1 c.1,c.2.take fG)
 else if m.is EH then(.drop m.next.name.1,m.next.name.2)
 else if m.is Gt then
  let t:=m.next.name
  let r:=j6 t.2
  let l:=mC r.2.len [r.1] r.2
  (.load t.1 l.1,l.2)
 else if m.is DE then
  let u:=m.next.name
  let t:=(u.2.take yr).name
  let c:=jK (t.2.take dA)
  let f:=oT ((c.2.take fG).take kH)
  (.vB u.1 t.1 c.1 f.1.1 f.1.2,f.2)
 else if m.is Ce then
  let u:=m.next.name
  let t:=(u.2.take yr).name
  (.wI u.1 t.1,t.2)
 else
  let t:=(m.take kW).name
  let l:=gN t.2.len [{ bare kW m.place with table:=t.1 }] t.2
  (.query l.1,l.2)
def iG(S:ByteArray):Bi ⊕ (Nat×Nat):=
 if 300<S.size then .inr (1,0)
 else
  let r:=cD (Mode.of (fM S 0))
  match r.2 with
  |.dead e b=>.inr (e,b)
  |.live ⟨.stop,_⟩ _=>.inl r.1
  |.live t _=>.inr (2,t.pl)
structure aD where
 null:Bool
 n:Int
 s:ByteArray
abbrev br:=ByteArray×Nat
def fD:aD:=⟨true,0,ByteArray.empty⟩
def po(n:Int):aD:=⟨false,n,ByteArray.empty⟩
def jL(b:Bool):aD:=po (if b then 1 else 0)
def Lx(cols:List br)(s:ByteArray):Option Nat:=cols.findIdx? (λc=>iZ c.1 s)
def amk:ByteArray:=bs [43]
def aml:ByteArray:=bs [42]
def aie:ByteArray:=bs [47]
def ar3:ByteArray:=bs [37]
def kNe:ByteArray:=bs [60,62]
def kLt:ByteArray:=bs [60]
def kLe:ByteArray:=bs [60,61]
def kGt:ByteArray:=bs [62]
def kGe:ByteArray:=bs [62,61]
def pq(op:ByteArray):Bool:=iZ op amk||iZ op p8||iZ op aml||iZ op aie||iZ op ar3
def lH(op:ByteArray):Bool:=iZ op xO||iZ op kNe||iZ op kLt||iZ op kLe||iZ op kGt||iZ op kGe
def cH(cols:List br):Ex->Nat ⊕ (Nat×Nat)
 |.num _=>.inl 0
 |.str _=>.inl 1
 |.bool _=>.inl 2
 |.junk=>.inl 0
 |.col s a=>match cols.find? (λc=>iZ c.1 s)with
   |some c=>.inl c.2
   |none=>.inr (5,a)
 |.kG _ _ x=>match cH cols x with
   |.inr e=>.inr e
   |.inl _=>.inl 2
 |.neg a x=>match cH cols x with
   |.inr e=>.inr e
   |.inl k=>if k=0 then .inl 0 else .inr (7,a)
 |.not a x=>match cH cols x with
   |.inr e=>.inr e
   |.inl k=>if k=2 then .inl 2 else .inr (7,a)
 |.two op a x y=>match cH cols x with
   |.inr e=>.inr e
   |.inl k=>match cH cols y with
     |.inr e=>.inr e
     |.inl j=>if k≠j\/(k≠(if pq op then 0 else 2)/\lH op=false)then .inr (7,a)else .inl (if pq op then 0 else 2)
def EI:List UInt8->List UInt8->Int
 |[],[]=>0
 |[],_::_=>-1
 |_::_,[]=>1
 |a::x,b::y=>if a=b then EI x y else if a<b then -1 else 1
structure ar4 where
 cols:List br
 rows:List (List aD)
structure aif where
 name:ByteArray
 rel:ar4
structure aih where
 user:ByteArray
 table:ByteArray
 cols:List ByteArray
 cond:Ex
structure ar5 where
 tables:List aif
 grants:List aih
 ar6:Nat
def cellAt(cols:List br)(row:List aD)(s:ByteArray):aD:=match Lx cols s with
 |some i=>row.getD i fD
 |none=>fD
def Hid(p:Prop):Prop:=p
theorem ak(h:l):Hid l:=h
theorem Hid.J(h:Hid l):l:=h
theorem nm{c:Sort _}(a:c):∃b,b=a:=⟨_,rfl⟩
structure aX (K:Nat->Prop)(w w':ω):Prop where
 os:w'.os=w.os
 tape:w'.tape=w.tape
 output:w'.output=w.output
 size:w.heap.size<=w'.heap.size
 block:∀k,K k->w'.heap[k]?=w.heap[k]?
theorem aX.refl(b:Nat->Prop)(a:ω):aX b a a:=⟨rfl,rfl,rfl,ae _,λ_ _=>rfl⟩
theorem aX.trans{b c:ω}(h:aX p w b)(a:aX p b c):aX p w c:=
 ⟨a.os.trans h.os,a.tape.trans h.tape,a.output.trans h.output,ag h.size a.size,λe d=>(a.block e d).trans (h.block e d)⟩
theorem aX.mono{K':Nat->Prop}(h:aX p w m)(b:∀a,K' a->p a):aX K' w m:=⟨h.os,h.tape,h.output,h.size,λa c=>h.block a (b a c)⟩
theorem aX.drew(h:aX p w m):aX p w m.drew:=⟨h.os,h.tape,h.output,h.size,h.block⟩
theorem aX.alloc{w:ω}(h:aX p m w)(b:∀a,p a->a<w.heap.size)(d:Obj):aX p m (w.alloc d):=
 h.trans ⟨rfl,rfl,rfl,by simp,λa c=>ct _ _ _ (b a c)⟩
theorem aX.setCell{K:Nat->Prop}(h:aX K w m){p:Addr}(c:¬K p.block)(d:υ):aX K w (m.setCell p d):=
 h.trans ⟨rfl,rfl,rfl,by simp[World.setCell],λe b=>ay _ _ _ _ (λa=>c (a ▸ b))⟩
theorem aX.grown{d:ω}{row:Option Nat}(h:aX p w m)(b:m.grownBy d row)(f:∀a,p a->a<m.heap.size)(g:∀a,row=σ a->¬p a):aX p w d:=
 h.trans ⟨b.os,b.tape,b.output,b.size,λa c=>b.block a (f a c) (λe=>g a e.symm c)⟩
theorem aX.cell{b:Nat->Prop}{a c:ω}(h:aX b a c){p:Addr}(d:b p.block):c.cell? p=a.cell? p:=bZ (w:=a) (h.block p.block d)
theorem aX.frozen{b:Nat->Prop}{a c:ω}(h:aX b a c){p:Addr}(d:b p.block):c.frozen? p=a.frozen? p:=cY (w:=a) (h.block p.block d)
theorem aX.below(h:aX (·<v) w m):δ v w m:=⟨h.os,h.tape,h.output,h.size,h.block⟩
theorem aX.Cg(h:δ v w m):aX (·<v) w m:=⟨h.os,h.tape,h.output,h.size,h.block⟩
theorem aX.tq{K:Nat->Prop}(h:w.grownBy m ν)(b:∀a,K a->a<w.heap.size):aX K w m:=⟨h.os,h.tape,h.output,h.size,λa c=>h.block a (b a c) (by simp)⟩
theorem grownBy_setCell(b:ω)(a:Addr)(c:υ):b.grownBy (b.setCell a c) (σ a.block):=
 ⟨rfl,rfl,rfl,by simp[World.setCell],λf _ e=>ay b a c f (λd=>e (bn σ d))⟩
theorem eB{a:Nat}{b:TypeId}{size:Nat}{d:υ}{c:Nat}{e:List υ}(h:w.ownsRow v b size d c e)(j:a<=v):w.ownsRow a b size d c e:=by
 refine⟨h.1,?_⟩;rcases h.2 with i|⟨g,f,cur,l,k,m⟩
 {exact .inl i};exact .inr ⟨g,f,cur,l,ag j k,m⟩
theorem cJ{n:Program}(c:ω){P:Array Oper}{rest:List Oper}{r:Oper}{o:Act}{D:Exit->Act->ω->Prop}(H:r.guard=ν)(s t:Operand)(l:TypeId)
 (L:r.op=.call { callee:=.builtin .append,args:=#[s,t],argTypes:=#[l,l] })
 (v:Nat) (g:TypeId) (k:TypeInfo) (B:υ) (size bytes:Nat) (N:n.underlying l=σ (.slice g)) (I:n.info? g=σ k) (V:k.zero=σ B)
 (C:k.size=size) (T:k.bytes=bytes) (W:B.cells.size=size) (Y:0<size)
 (z:υ) (e:Nat) (m:List υ) (M:o.eval s=z) (u:c.ownsRow v g size z e m)
 (p:Addr) (b w:Nat) (i:List υ) (O:o.eval t=ψ (σ p) b w) (K:i.length=b*size) (E:∀X y,i[X]?=σ y->c.cell? (p.add X)=σ y) (F:∀y∈i,y.oneCell'=true)
 (hm:0<b) (R:e+b<=maxLen) (Q:(e+b)*bytes<=140737488355328) (uw:v<=c.heap.size)
 (h:∀a d f,f.ownsRow v g size (ψ (σ ⟨a,0,ν⟩) (e+b) d) (e+b) (m++i)->c.grownBy f z.ownBlock->(z.ownBlock=σ a\/c.heap.size<=a)->wpList n P D rest (o.put r.dst (ψ (σ ⟨a,0,ν⟩) (e+b) d)) f):wpList n P D (r::rest) o c:=by
 have grow:∀A f,f.ownsRow c.heap.size g size A (e+b) (m++i)->c.grownBy f ν->wpList n P D rest (o.put r.dst A) f:=(by intro A f x j;obtain⟨a,d,rfl,U⟩:∃a d,A=ψ (σ ⟨a,0,ν⟩) (e+b) d/\c.heap.size<=a:=(by rcases x.2 with⟨_,h⟩|⟨a,Ao,_,h,G,_⟩;{omega};exact⟨a,Ao,h,G⟩);exact h a d f (eB x uw) ⟨j.os,j.tape,j.output,j.size,λac hk _=>j.block ac hk (by simp)⟩ (.inr U));have Z:=u;rcases u.2 with⟨rfl,rfl⟩|⟨a,d,cur,rfl,an,U,ap,YP,ao,al⟩
 {have ab:m=[]:=gP (by simpa using u.1);subst ab;exact wpList_append_grows c H s t l L g k B size bytes N I V C T W Y ν 0 0 [] M (λ_=>⟨rfl,rfl⟩) (by simp) (by intro _ h;cases h) p b w i O K E F (by omega) R Q grow};by_cases aa:e+b<=d;{exact wpList_append_fits c H s t l L v g k size N I C a e d m M Z p b w i O K E F aa (λf x j=>h a d f x j (.inl rfl))};exact wpList_append_grows c H s t l L g k B size bytes N I V C T W Y (σ ⟨a,0,ν⟩) e d m M (by intro h;cases h) u.1 (by intro am G;cases G;exact Z.cells rfl) p b w i O K E F (by omega) R Q grow
theorem oJ(h:m=w.alloc n):δ w.heap.size w m:=by rw[h];exact(ah _ _).alloc (ae _) _
theorem vC(h:m=(w.alloc n).alloc i):δ w.heap.size w m:=by rw[h];exact((ah _ _).alloc (ae _) _).alloc (by simp) _
theorem ar7{q:Obj}(h:m=((w.alloc n).alloc i).alloc q):δ w.heap.size w m:=by rw[h];exact(((ah _ _).alloc (ae _) _).alloc (by simp) _).alloc (by simp;omega) _
def sj:List ByteArray:=ur++tf++ll++zJ++zK
def pz:Ex->Prop
 |.two op _ x y=>op∈sj/\pz x/\pz y
 |.neg _ x=>pz x
 |.not _ x=>pz x
 |.kG _ _ x=>pz x
 |_=>True
def YU(S:Mode->Ex×Mode):Prop:=∀m,pz (S m).1
theorem ZV{S:Mode->Ex×Mode}(h:YU S)(g:∀e∈x,e∈sj):∀c a d,pz a->pz (lY S x c a d).1:=by
 intro c
 induction c with
 |zero=>exactλa d b=>b
 |succ c i=>
   intro a d b;unfold lY;split
   . rename_i e f
     exact i _ _ ⟨g e (jo f),b,h _⟩
   . exact b
theorem Ct{S:Mode->Ex×Mode}(h:YU S)(a:∀c∈x,c∈sj):YU (tg S x):=λb=>ZV h a _ _ _ (h b)
def WfL:Option AK->Prop
 |none=>True
 |some l=>YU l.expr/\YU l.Lw/\YU l.turn
section
variable {sub:Option AK} (h:WfL sub)
include h
theorem aex:YU (jJ sub):=λb=>by
 unfold jJ;split
 . cases sub with
   |none=>trivial
   |some a=>exact h.1 _
 . split
   . trivial
   . trivial
   . trivial
   . split
     . trivial
     . split<;>trivial
   . trivial
theorem Uv:YU (iE sub):=λa=>by
 unfold iE;split
 . cases sub with
   |none=>trivial
   |some b=>exact h.2.2 _
 . exact aex h a
theorem Cu:YU (ji sub):=Ct (Ct (Uv h) (λa h=>by simp[sj,h])) (λa h=>by simp[sj,h])
theorem aey:YU (oD sub):=λb=>by
 unfold oD;simp only;split
 . rename_i a c
   exact⟨(show∀a∈ll,a∈sj fromλa h=>by simp[sj,h]) a (jo c),Cu h _,Cu h _⟩
 . split
   . exact Cu h b
   . exact Cu h b
theorem Uw:YU (iK sub):=λa=>by
 unfold iK;split
 . cases sub with
   |none=>trivial
   |some b=>exact h.2.1 _
 . exact aey h a
theorem Ux:YU (mO sub):=Ct (Ct (Uw h) (λa h=>by simp[sj,h])) (λa h=>by simp[sj,h])
end
theorem LK:∀a,WfL (lvl a)
 |0=>trivial
 |a+1=>⟨Ux (LK a),Uw (LK a),Uv (LK a)⟩
theorem Uy(a:Mode):pz (oT a).1.1:=Ux (LK 8) a
theorem C6(S:ByteArray)(a:Nat)(f:a<=S.size):(fM S a).length<=S.size - a+1:=by
 have d:=fl S cz a;rw[fM];split
 . rename_i h
   split
   . simp
   . rename_i c
     have b:=rF S (aS S cz a) h (by simpa using c);have e:=C6 S (fN S (aS S cz a) h).2 b.2;simp only[List.length_cons];omega
 . simp
 termination_by S.size - a
theorem ajX(S:ByteArray)(h:S.size<=300):(Mode.of (fM S 0)).len<=301:=by
 have a:=C6 S 0 (aK _)
 cases hk:fM S 0 with
 |nil=>exact absurd hk (Cc S 0)
 |cons c b=>
   rw[hk]at a;simp only[List.length_cons]at a;show b.length+1<=301;omega
