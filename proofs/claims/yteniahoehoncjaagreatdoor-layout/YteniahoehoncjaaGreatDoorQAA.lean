import Derived.Test.YteniahoehoncjaaGreatDoorQZZ
set_option maxHeartbeats 99999999
set_option maxRecDepth 100000
namespace Go.Proofs.YteniahoehoncjaaGreatDoor
open Go.RowKit
def bs (l:List UInt8):ByteArray:=⟨⟨l⟩⟩
def bZ (n:Int):Prop:=-9223372036854775808<=n/\n<=9223372036854775807
def kh (x y:ByteArray):Bool:=decide (x.data=y.data)
theorem iQ {x y:ByteArray}:kh x y=true↔x=y:=by
 unfold kh;rw [cY];exact ⟨λh=>by cases x;cases y;simp at h;rw [h],λh=>by rw [h]⟩
inductive Tk where
 | stop | bad
 | word (s:ByteArray) | name (s:ByteArray) | num (n:Nat) | str (s:ByteArray) | sign (s:ByteArray)
structure Tok where
 k:Tk
 pl:Nat
def jU (n:Nat):Bool:=decide (97<=n)&&decide (n<=122)
def lY (n:Nat):Bool:=decide (48<=n)&&decide (n<=57)
def ct (c:UInt8):Bool:=jU c.toNat
def cD (c:UInt8):Bool:=lY c.toNat
def eE (c:UInt8):Bool:=decide (32<=c.toNat)&&decide (c.toNat<=126)&&!decide (c.toNat=39)
def bU (c:UInt8):Bool:=decide (c.toNat=32)
def aM (S:ByteArray)(f:UInt8->Bool)(i:Nat):Nat:=
 if h:i<S.size then (if f S[i] then aM S f (i+1) else i) else i
 termination_by S.size - i
theorem fg (S:ByteArray)(f:UInt8->Bool)(i:Nat):i<=aM S f i:=by
 rw [aM];split
 . split
   . exact aw (cq i) (fg S f (i+1))
   . exact af _
 . exact af _
 termination_by S.size - i
theorem fj (S:ByteArray)(f:UInt8->Bool)(i:Nat)(hi:i<=S.size):aM S f i<=S.size:=by
 rw [aM];split
 . split
   . exact fj S f (i+1) (by omega)
   . exact hi
 . exact hi
 termination_by S.size - i
theorem gU (S:ByteArray)(f:UInt8->Bool)(i:Nat)(h:i<S.size)(hf:f S[i]=true):aM S f i=aM S f (i+1):=by
 rw [aM,iX h,aH hf]
theorem iR (S:ByteArray)(f:UInt8->Bool)(i:Nat)(h:i<S.size)(hf:f S[i]=false):aM S f i=i:=by
 rw [aM,iX h,aA (by simp [hf])]
theorem lx (S:ByteArray)(f:UInt8->Bool)(i:Nat)(h:¬i<S.size):aM S f i=i:=by
 rw [aM,nr h]
def lM (l:List UInt8):Nat:=l.foldl (λn c=>n*10+(c.toNat - 48)) 0
def bS:List ByteArray:=
 [bs [102,114,111,109],bs [119,104,101,114,101],bs [109,97,112],bs [106,111,105,110],bs [111,110],bs [103,114,111,117,112],
  bs [111,114,100,101,114],bs [100,111,119,110],bs [108,105,109,105,116],bs [99,114,101,97,116,101],bs [100,114,111,112],bs [108,111,97,100],
  bs [103,114,97,110,116],bs [114,101,118,111,107,101],bs [97,110,100],bs [111,114],bs [110,111,116],bs [105,115],bs [110,117,108,108],
  bs [116,114,117,101],bs [102,97,108,115,101],bs [105,110,116],bs [115,116,114],bs [98,111,111,108],bs [99,111,117,110,116],bs [115,117,109],
  bs [109,105,110],bs [109,97,120]]
def ej (S:ByteArray)(i:Nat)(h:i<S.size):Nat:=
 let c:=S[i].toNat
 let d:=if h2:i+1<S.size then S[i+1].toNat else 0
 if (c=60/\(d=62\/d=61))\/(c=62/\d=61) then 2
 else if c∈[40,41,44,124,58,61,60,62,43,45,42,47,37] then 1 else 0
theorem yK (S:ByteArray)(i:Nat)(h:i<S.size):ej S i h<=2/\(ej S i h=2->i+1<S.size):=by
 unfold ej;generalize hd:(if h2:i+1<S.size then S[i+1].toNat else 0)=d;simp only;by_cases hc:(S[i].toNat=60/\(d=62\/d=61))\/(S[i].toNat=62/\d=61)
 . rw [aH hc]
   refine ⟨af _,λ_=>?_⟩;apply kr;intro hn;rw [nr hn] at hd;omega
 . rw [aA hc]
   split<;>simp
def eV (S:ByteArray)(i:Nat)(h:i<S.size):Tk×Nat:=
 if ct S[i] then
  let e:=aM S ct i
  let w:=S.extract i e
  if 8<e - i then (.bad,e) else if bS.any (kh w) then (.word w,e) else (.name w,e)
 else if cD S[i] then
  let e:=aM S cD i
  let n:=lM (S.extract i e).data.toList
  if 19<e - i\/9223372036854775807<n then (.bad,e) else (.num n,e)
 else if S[i].toNat=39 then
  let e:=aM S eE (i+1)
  if h2:e<S.size then (if S[e].toNat=39/\e - i - 1<=12 then (.str (S.extract (i+1) e),e+1) else (.bad,i+2)) else (.bad,i+2)
 else
  let n:=ej S i h
  if n=0 then (.bad,i) else (.sign (S.extract i (i+n)),i+n)
def Tk.ends:Tk->Bool
 |.stop=>true|.bad=>true|_=>false
theorem qZ (S:ByteArray)(i:Nat)(h:i<S.size)(hk:(eV S i h).1.ends=false):i<(eV S i h).2/\(eV S i h).2<=S.size:=by
 revert hk;rw [eV];split
 . rename_i hl
   have h1:=gU S ct i h hl;have h2:=fg S ct (i+1);have h3:=fj S ct i (by omega);simp only;split
   . intro hk;simp [Tk.ends] at hk
   . split<;>(intro _;simp only;omega)
 . split
   . rename_i hl
     have h1:=gU S cD i h hl;have h2:=fg S cD (i+1);have h3:=fj S cD i (by omega);simp only;split
     . intro hk;simp [Tk.ends] at hk
     . intro _;simp only;omega
   . split
     . simp only
       split
       . split
         . intro _
           have h2:=fg S eE (i+1);simp only;omega
         . intro hk;simp [Tk.ends] at hk
       . intro hk;simp [Tk.ends] at hk
     . simp only
       split
       . intro hk;simp [Tk.ends] at hk
       . intro _
         have h3:=yK S i h;simp only;omega
def dB (S:ByteArray)(i:Nat):List Tok:=
 let j:=aM S bU i
 if h:j<S.size then
  (if _hk:(eV S j h).1.ends then [⟨.bad,j⟩] else ⟨(eV S j h).1,j⟩::dB S (eV S j h).2)
 else [⟨.stop,S.size⟩]
 termination_by S.size - i
 decreasing_by
 have h1:=fg S bU i;have h2:=(qZ S (aM S bU i) h (by simpa using _hk)).1;omega
theorem zU (S:ByteArray)(i:Nat):dB S i≠[]:=by
 rw [dB];split
 . split<;>simp
 . simp
inductive Mode where
 | live (t:Tok) (ts:List Tok)
 | dead (e b:Nat)
def Mode.of:List Tok->Mode
 |t::ts=>.live t ts
 |[]=>.live ⟨.stop,0⟩ []
def Mode.next:Mode->Mode
 |.live _ (u::us)=>.live u us
 |m=>m
def Mode.place:Mode->Nat
 |.live t _=>t.pl
 |.dead _ _=>0
def Mode.fail (e b:Nat):Mode->Mode
 |.live _ _=>.dead e b
 |m=>m
def Mode.wrong (e:Nat)(m:Mode):Mode:=m.fail e m.place
def Mode.tk:Mode->Tk
 |.live t _=>t.k
 |.dead _ _=>.bad
def Mode.is (s:ByteArray)(m:Mode):Bool:=
 match m.tk with
 |.word x=>kh x s
 |.sign x=>kh x s
 |_=>false
def Mode.take (s:ByteArray)(m:Mode):Mode:=if m.is s then m.next else m.wrong 2
def Mode.name (m:Mode):(ByteArray×Nat)×Mode:=
 match m.tk with
 |.name x=>((x,m.place),m.next)
 |_=>((ByteArray.empty,0),m.wrong 2)
def Mode.len:Mode->Nat
 |.live _ ts=>ts.length+1
 |.dead _ _=>0
inductive Ex where
 | num (n:Nat) | str (s:ByteArray) | bool (b:Bool) | col (s:ByteArray) (a:Nat)
 | neg (a:Nat) (x:Ex) | not (a:Nat) (x:Ex) | lZ (no:Bool) (a:Nat) (x:Ex)
 | two (op:ByteArray) (a:Nat) (x y:Ex)
 | junk
def l9 (link:Mode->Ex×Mode)(ops:List ByteArray):Nat->Ex->Mode->Ex×Mode
 |0,x,m=>(x,m)
 |n+1,x,m=>match ops.find? (λo=>m.is o) with
   |some o=>l9 link ops n (.two o m.place x (link m.next).1) (link m.next).2
   |none=>(x,m)
structure vI where
 expr:Mode->Ex×Mode
 J6:Mode->Ex×Mode
 turn:Mode->Ex×Mode
def cI:ByteArray:=bs [40]
def eG:ByteArray:=bs [41]
def qj:ByteArray:=bs [45]
def yr:ByteArray:=bs [116,114,117,101]
def sH:ByteArray:=bs [102,97,108,115,101]
def wq:ByteArray:=bs [110,111,116]
def q6:ByteArray:=bs [110,117,108,108]
def kIs:ByteArray:=bs [105,115]
def rU:List ByteArray:=[bs [42],bs [47],bs [37]]
def q7:List ByteArray:=[bs [43],bs [45]]
def jV:List ByteArray:=[bs [61],bs [60,62],bs [60],bs [60,61],bs [62],bs [62,61]]
def xy:List ByteArray:=[bs [97,110,100]]
def xA:List ByteArray:=[bs [111,114]]
def gM (sub:Option vI)(m:Mode):Ex×Mode:=
 if m.is cI then
  match sub with
  |none=>(.junk,m.wrong 3)
  |some l=>((l.expr m.next).1,(l.expr m.next).2.take eG)
 else match m.tk with
  |.num n=>(.num n,m.next)
  |.str s=>(.str s,m.next)
  |.name s=>(.col s m.place,m.next)
  |.word s=>if kh s yr then (.bool true,m.next) else if kh s sH then (.bool false,m.next) else (.junk,m.wrong 2)
  |_=>(.junk,m.wrong 2)
def gN (sub:Option vI)(m:Mode):Ex×Mode:=
 if m.is qj then
  match sub with
  |none=>(.junk,m.wrong 3)
  |some l=>(.neg m.place (l.turn m.next).1,(l.turn m.next).2)
 else gM sub m
def qk (link:Mode->Ex×Mode)(ops:List ByteArray)(m:Mode):Ex×Mode:=l9 link ops (link m).2.len (link m).1 (link m).2
def zV (sub:Option vI):Mode->Ex×Mode:=qk (gN sub) rU
def iB (sub:Option vI):Mode->Ex×Mode:=qk (zV sub) q7
def mo (sub:Option vI)(m:Mode):Ex×Mode:=
 let r:=iB sub m
 match jV.find? (λo=>r.2.is o) with
 |some o=>(.two o r.2.place r.1 (iB sub r.2.next).1,(iB sub r.2.next).2)
 |none=>
   if r.2.is kIs then
    (.lZ (r.2.next.is wq) r.2.place r.1,(if r.2.next.is wq then r.2.next.next else r.2.next).take q6)
   else r
def gO (sub:Option vI)(m:Mode):Ex×Mode:=
 if m.is wq then
  match sub with
  |none=>(.junk,m.wrong 3)
  |some l=>(.not m.place (l.J6 m.next).1,(l.J6 m.next).2)
 else mo sub m
def zW (sub:Option vI):Mode->Ex×Mode:=qk (gO sub) xy
def j9 (sub:Option vI):Mode->Ex×Mode:=qk (zW sub) xA
def agY (sub:Option vI):vI:=⟨j9 sub,gO sub,gN sub⟩
def lvl:Nat->Option vI
 |0=>none
 |d+1=>some (agY (lvl d))
abbrev Nm:=ByteArray×Nat
structure qD where
 pl:Nat
 kind:Int
 null:Bool
 n:Int
 s:ByteArray
structure oz where
 pl:Nat
 vals:List qD
structure Vz where
 name:Nm
 fn:ByteArray
 pl:Nat
 ov:Nm
 bare:Bool
structure gV where
 word:ByteArray
 pl:Nat
 table:Nm
 names:List Nm
 exprs:List (Ex×Nat)
 left:Nm
 right:Nm
 eq:Nat
 made:List Vz
 down:List Bool
 n:Nat
inductive xZ where
 | create (t:Nm) (cols:List (Nm×Nat))
 | drop (t:Nm)
 | load (t:Nm) (rows:List oz)
 | wu (user table:Nm) (cols:List Nm) (cond:Ex) (first:Nat)
 | uw (user table:Nm)
 | query (dU:List gV)
def kj:ByteArray:=bs [44]
def EK:ByteArray:=bs [124]
def gW:ByteArray:=bs [58]
def vJ:ByteArray:=bs [61]
def ac7:ByteArray:=bs [105,110,116]
def ac8:ByteArray:=bs [115,116,114]
def QU:ByteArray:=bs [98,111,111,108]
def wy:ByteArray:=bs [111,110]
def kP:ByteArray:=bs [119,104,101,114,101]
def C9:ByteArray:=bs [109,97,112]
def yt:ByteArray:=bs [106,111,105,110]
def wz:ByteArray:=bs [103,114,111,117,112]
def Bu:ByteArray:=bs [111,114,100,101,114]
def QV:ByteArray:=bs [100,111,119,110]
def fl:ByteArray:=bs [108,105,109,105,116]
def mq:ByteArray:=bs [99,114,101,97,116,101]
def vu:ByteArray:=bs [100,114,111,112]
def yu:ByteArray:=bs [108,111,97,100]
def wB:ByteArray:=bs [103,114,97,110,116]
def xB:ByteArray:=bs [114,101,118,111,107,101]
def kc:ByteArray:=bs [102,114,111,109]
def jE:ByteArray:=bs [99,111,117,110,116]
def x9:ByteArray:=bs [115,117,109]
def yL:ByteArray:=bs [109,105,110]
def zX:ByteArray:=bs [109,97,120]
def fm {α:Type}(one:Mode->α×Mode):Nat->List α->Mode->List α×Mode
 |0,l,m=>(l,m)
 |n+1,l,m=>if m.is kj then fm one n (l++[(one m.next).1]) (one m.next).2 else (l,m)
def cC {α:Type}(one:Mode->α×Mode)(m:Mode):List α×Mode:=fm one (one m).2.len [(one m).1] (one m).2
def gu:Mode->List Nm×Mode:=cC Mode.name
def mF (m:Mode):Nat×Mode:=if m.is ac7 then (0,m.next) else if m.is ac8 then (1,m.next) else (2,m.take QU)
def mS (m:Mode):(Nm×Nat)×Mode:=((m.name.1,(mF m.name.2).1),(mF m.name.2).2)
def EL:qD:=⟨0,0,false,0,ByteArray.empty⟩
def gw (m:Mode):qD×Mode:=
 if m.is qj then
  match m.next.tk with
  |.num n=>(⟨m.place,0,false,-(n:Int),ByteArray.empty⟩,m.next.next)
  |_=>(EL,m.next.wrong 2)
 else match m.tk with
  |.num n=>(⟨m.place,0,false,n,ByteArray.empty⟩,m.next)
  |.str s=>(⟨m.place,1,false,0,s⟩,m.next)
  |_=>
    if m.is yr then (⟨m.place,2,false,1,ByteArray.empty⟩,m.next)
    else if m.is sH then (⟨m.place,2,false,0,ByteArray.empty⟩,m.next)
    else if m.is q6 then (⟨m.place,-1,true,0,ByteArray.empty⟩,m.next)
    else (EL,m.wrong 2)
def fW (m:Mode):oz×Mode:=(⟨m.place,(cC gw (m.take cI)).1⟩,(cC gw (m.take cI)).2.take eG)
def jw:Nat->List oz->Mode->List oz×Mode
 |0,l,m=>(l,m)
 |n+1,l,m=>if m.is cI then jw n (l++[(fW m).1]) (fW m).2 else (l,m)
def nR (m:Mode):(Ex×Nat)×Mode:=(((j9 (lvl 8) m).1,m.place),(j9 (lvl 8) m).2)
def jO (m:Mode):Vz×Mode:=
 let m1:=m.name.2.take vJ
 let known:=m1.is jE||m1.is x9||m1.is yL||m1.is zX
 let fn:=match m1.tk with
  |.word s=>s
  |.sign s=>s
  |_=>ByteArray.empty
 let m2:=(if known then m1.next else m1.wrong 2).take cI
 if m1.is jE&&m2.is eG then (⟨m.name.1,fn,m1.place,(ByteArray.empty,0),true⟩,m2.take eG)
 else (⟨m.name.1,fn,m1.place,m2.name.1,false⟩,m2.name.2.take eG)
def eL (m:Mode):(Nm×(Ex×Nat))×Mode:=((m.name.1,(nR (m.name.2.take vJ)).1),(nR (m.name.2.take vJ)).2)
def dC (m:Mode):(Nm×Bool)×Mode:=((m.name.1,m.name.2.is QV),if m.name.2.is QV then m.name.2.next else m.name.2)
def bare (w:ByteArray)(pl:Nat):gV:=⟨w,pl,(ByteArray.empty,0),[],[],(ByteArray.empty,0),(ByteArray.empty,0),0,[],[],0⟩
def dh (m:Mode):gV×Mode:=
 if m.is kP then ({ bare kP m.place with exprs:=[(nR m.next).1] },(nR m.next).2)
 else if m.is C9 then ({ bare C9 m.place with names:=(cC eL m.next).1.map (·.1),exprs:=(cC eL m.next).1.map (·.2) },(cC eL m.next).2)
 else if m.is yt then
  let t:=m.next.name
  let l:=(t.2.take wy).name
  let r:=(l.2.take vJ).name
  ({ bare yt m.place with table:=t.1,left:=l.1,right:=r.1,eq:=l.2.place },r.2)
 else if m.is wz then
  let keys:List Nm×Mode:=match m.next.tk with
   |.name _=>gu m.next
   |_=>([],m.next)
  ({ bare wz m.place with names:=keys.1,made:=(cC jO (keys.2.take gW)).1 },(cC jO (keys.2.take gW)).2)
 else if m.is Bu then ({ bare Bu m.place with names:=(cC dC m.next).1.map (·.1),down:=(cC dC m.next).1.map (·.2) },(cC dC m.next).2)
 else
  let m1:=m.take fl
  match m1.tk with
  |.num n=>({ bare fl m.place with n:=n },m1.next)
  |_=>(bare fl m.place,m1.wrong 2)
def eC:Nat->List gV->Mode->List gV×Mode
 |0,l,m=>(l,m)
 |n+1,l,m=>if m.is EK then eC n (l++[(dh m.next).1]) (dh m.next).2 else (l,m)
def aV (m:Mode):xZ×Mode:=
 if m.is mq then
  let t:=m.next.name
  let c:=cC mS (t.2.take cI)
  (.create t.1 c.1,c.2.take eG)
 else if m.is vu then (.drop m.next.name.1,m.next.name.2)
 else if m.is yu then
  let t:=m.next.name
  let r:=fW t.2
  let l:=jw r.2.len [r.1] r.2
  (.load t.1 l.1,l.2)
 else if m.is wB then
  let u:=m.next.name
  let t:=(u.2.take wy).name
  let c:=gu (t.2.take cI)
  let f:=nR ((c.2.take eG).take kP)
  (.wu u.1 t.1 c.1 f.1.1 f.1.2,f.2)
 else if m.is xB then
  let u:=m.next.name
  let t:=(u.2.take wy).name
  (.uw u.1 t.1,t.2)
 else
  let t:=(m.take kc).name
  let l:=eC t.2.len [{ bare kc m.place with table:=t.1 }] t.2
  (.query l.1,l.2)
def gP (S:ByteArray):xZ ⊕ (Nat×Nat):=
 if 300<S.size then .inr (1,0)
 else
  let r:=aV (Mode.of (dB S 0))
  match r.2 with
  |.dead e b=>.inr (e,b)
  |.live ⟨.stop,_⟩ _=>.inl r.1
  |.live t _=>.inr (2,t.pl)
structure aL where
 null:Bool
 n:Int
 s:ByteArray
abbrev cU:=ByteArray×Nat
def eW:aL:=⟨true,0,ByteArray.empty⟩
def oA (n:Int):aL:=⟨false,n,ByteArray.empty⟩
def jr (b:Bool):aL:=oA (if b then 1 else 0)
def J7 (cols:List cU)(s:ByteArray):Option Nat:=cols.findIdx? (λc=>kh c.1 s)
def agZ:ByteArray:=bs [43]
def ag0:ByteArray:=bs [42]
def ac9:ByteArray:=bs [47]
def aml:ByteArray:=bs [37]
def kNe:ByteArray:=bs [60,62]
def kLt:ByteArray:=bs [60]
def kLe:ByteArray:=bs [60,61]
def kGt:ByteArray:=bs [62]
def kGe:ByteArray:=bs [62,61]
def ql (op:ByteArray):Bool:=kh op agZ||kh op qj||kh op ag0||kh op ac9||kh op aml
def mG (op:ByteArray):Bool:=kh op vJ||kh op kNe||kh op kLt||kh op kLe||kh op kGt||kh op kGe
def cV (cols:List cU):Ex->Nat ⊕ (Nat×Nat)
 |.num _=>.inl 0
 |.str _=>.inl 1
 |.bool _=>.inl 2
 |.junk=>.inl 0
 |.col s a=>match cols.find? (λc=>kh c.1 s) with
   |some c=>.inl c.2
   |none=>.inr (5,a)
 |.lZ _ _ x=>match cV cols x with
   |.inr e=>.inr e
   |.inl _=>.inl 2
 |.neg a x=>match cV cols x with
   |.inr e=>.inr e
   |.inl k=>if k=0 then .inl 0 else .inr (7,a)
 |.not a x=>match cV cols x with
   |.inr e=>.inr e
   |.inl k=>if k=2 then .inl 2 else .inr (7,a)
 |.two op a x y=>match cV cols x with
   |.inr e=>.inr e
   |.inl k=>match cV cols y with
     |.inr e=>.inr e
     |.inl j=>if k≠j\/(k≠(if ql op then 0 else 2)/\mG op=false) then .inr (7,a) else .inl (if ql op then 0 else 2)
def Cu:List UInt8->List UInt8->Int
 |[],[]=>0
 |[],_::_=>-1
 |_::_,[]=>1
 |a::x,b::y=>if a=b then Cu x y else if a<b then -1 else 1
structure amm where
 cols:List cU
 rows:List (List aL)
structure ada where
 name:ByteArray
 rel:amm
structure adb where
 user:ByteArray
 table:ByteArray
 cols:List ByteArray
 cond:Ex
structure amn where
 tables:List ada
 grants:List adb
 amo:Nat
def cellAt (cols:List cU)(row:List aL)(s:ByteArray):aL:=match J7 cols s with
 |some i=>row.getD i eW
 |none=>eW
def Hid (p:Prop):Prop:=p
theorem hide {p:Prop}(h:p):Hid p:=h
theorem ae {p:Prop}(h:Hid p):p:=h
structure aQ (K:Nat->Prop)(w w':World):Prop where
 os:w'.os=w.os
 tape:w'.tape=w.tape
 output:w'.output=w.output
 size:w.heap.size<=w'.heap.size
 block:∀k,K k->w'.heap[k]?=w.heap[k]?
theorem aQ.refl (K:Nat->Prop)(w:World):aQ K w w:=⟨rfl,rfl,rfl,af _,λ_ _=>rfl⟩
theorem aQ.trans {K:Nat->Prop}{a b c:World}(h:aQ K a b)(k:aQ K b c):aQ K a c:=
 ⟨k.os.trans h.os,k.tape.trans h.tape,k.output.trans h.output,aw h.size k.size,λi hi=>(k.block i hi).trans (h.block i hi)⟩
theorem aQ.mono {K K':Nat->Prop}{w w':World}(h:aQ K w w')(hK:∀k,K' k->K k):aQ K' w w':=⟨h.os,h.tape,h.output,h.size,λk hk=>h.block k (hK k hk)⟩
theorem aQ.drew {K:Nat->Prop}{a w:World}(h:aQ K a w):aQ K a w.drew:=⟨h.os,h.tape,h.output,h.size,h.block⟩
theorem aQ.alloc {K:Nat->Prop}{a w:World}(h:aQ K a w)(hK:∀k,K k->k<w.heap.size)(o:Obj):aQ K a (w.alloc o):=
 h.trans ⟨rfl,rfl,rfl,by simp,λk hk=>bA _ _ _ (hK k hk)⟩
theorem aQ.setCell {K:Nat->Prop}{a w:World}(h:aQ K a w){p:Addr}(hp:¬K p.block)(u:Value):aQ K a (w.setCell p u):=
 h.trans ⟨rfl,rfl,rfl,by simp [World.setCell],λk hk=>aD _ _ _ _ (λe=>hp (e ▸ hk))⟩
theorem aQ.grown {K:Nat->Prop}{a w w':World}{row:Option Nat}(h:aQ K a w)(hg:w.grownBy w' row)(hK:∀k,K k->k<w.heap.size)(hr:∀k,row=some k->¬K k):aQ K a w':=
 h.trans ⟨hg.os,hg.tape,hg.output,hg.size,λk hk=>hg.block k (hK k hk) (λe=>hr k e.symm hk)⟩
theorem aQ.cell {K:Nat->Prop}{w w':World}(h:aQ K w w'){p:Addr}(hp:K p.block):w'.cell? p=w.cell? p:=bJ (w:=w) (h.block p.block hp)
theorem aQ.frozen {K:Nat->Prop}{w w':World}(h:aQ K w w'){p:Addr}(hp:K p.block):w'.frozen? p=w.frozen? p:=bM (w:=w) (h.block p.block hp)
theorem aQ.below {B:Nat}{w w':World}(h:aQ (·<B) w w'):Below B w w':=⟨h.os,h.tape,h.output,h.size,h.block⟩
theorem aQ.vU {B:Nat}{w w':World}(h:Below B w w'):aQ (·<B) w w':=⟨h.os,h.tape,h.output,h.size,h.block⟩
theorem aQ.nP {K:Nat->Prop}{w w':World}(h:w.grownBy w' none)(hK:∀k,K k->k<w.heap.size):aQ K w w':=⟨h.os,h.tape,h.output,h.size,λk hk=>h.block k (hK k hk) (by simp)⟩
theorem grownBy_setCell (w:World)(a:Addr)(u:Value):w.grownBy (w.setCell a u) (some a.block):=
 ⟨rfl,rfl,rfl,by simp [World.setCell],λk _ hk=>aD w a u k (λe=>hk (aU some e))⟩
theorem cL {w:World}{base rQ:Nat}{e:TypeId}{size:Nat}{v:Value}{n:Nat}{xs:List Value}(h:w.ownsRow base e size v n xs)(hb:rQ<=base):w.ownsRow rQ e size v n xs:=by
 refine ⟨h.1,?_⟩;rcases h.2 with h2|⟨g,cap,cur,hv,hg,r⟩
 . exact .inl h2
 . exact .inr ⟨g,cap,cur,hv,aw hb hg,r⟩
theorem cA {P:Program}(w:World){ops:Array Oper}{rest:List Oper}{o:Oper}{a:Act}{Q:Exit->Act->World->Prop}(Y8:o.guard=none)(s x:Operand)(t:TypeId)
 (ho:o.op=.call { callee:=.builtin .append,args:=#[s,x],argTypes:=#[t,t] })
 (base:Nat) (e:TypeId) (i:TypeInfo) (z:Value) (size bytes:Nat) (ht:P.underlying t=some (.slice e)) (hi:P.info? e=some i) (hz:i.zero=some z)
 (zI:i.size=size) (hby:i.bytes=bytes) (hzs:z.cells.size=size) (kd:0<size)
 (v:Value) (n:Nat) (xs:List Value) (hs:a.eval s=v) (br:w.ownsRow base e size v n xs)
 (ad:Addr) (m c:Nat) (news:List Value) (hx:a.eval x=.slice (some ad) m c) (hl:news.length=m*size) (Ea:∀j u,news[j]?=some u->w.cell? (ad.add j)=some u) (h1:∀u∈news,u.oneCell'=true)
 (hm:0<m) (h63:n+m<=maxLen) (Eb:(n+m)*bytes<=140737488355328) (qv:base<=w.heap.size)
 (h:∀g cap w',w'.ownsRow base e size (.slice (some ⟨g,0,none⟩) (n+m) cap) (n+m) (xs++news)->w.grownBy w' v.ownBlock->(v.ownBlock=some g\/w.heap.size<=g)->wpList P ops Q rest (a.put o.dst (.slice (some ⟨g,0,none⟩) (n+m) cap)) w'):wpList P ops Q (o::rest) a w:=by
 have grow:∀v' w',w'.ownsRow w.heap.size e size v' (n+m) (xs++news)->w.grownBy w' none->wpList P ops Q rest (a.put o.dst v') w':=by
  intro v' w' h2 h3;obtain ⟨g,cap,rfl,hg⟩:∃g cap,v'=.slice (some ⟨g,0,none⟩) (n+m) cap/\w.heap.size<=g:=by
   rcases h2.2 with ⟨_,h⟩|⟨g,vF,_,h,hb,_⟩
   . omega
   . exact ⟨g,vF,h,hb⟩
  exact h g cap w' (cL h2 qv) ⟨h3.os,h3.tape,h3.output,h3.size,λk hk _=>h3.block k hk (by simp)⟩ (.inr hg)
 have gS:=br;rcases br.2 with ⟨rfl,rfl⟩|⟨g,cap,cur,rfl,hbg,hg,hnc,sS,hcs,agI⟩
 . have Y9:xs=[]:=fT (by simpa using br.1)
   subst Y9;exact nJ w Y8 s x t ho e i z size bytes ht hi hz zI hby hzs kd none 0 0 [] hs (λ_=>⟨rfl,rfl⟩) (by simp) (by intro _ h;cases h) ad m c news hx hl Ea h1 (by omega) h63 Eb grow
 . by_cases Vg:n+m<=cap
   . exact oo w Y8 s x t ho base e i size ht hi zI g n cap xs hs gS ad m c news hx hl Ea h1 Vg (λw' h2 h3=>h g cap w' h2 h3 (.inl rfl))
   . exact nJ w Y8 s x t ho e i z size bytes ht hi hz zI hby hzs kd (some ⟨g,0,none⟩) n cap xs hs (by intro h;cases h) br.1 (by intro b hb;cases hb;exact gS.cells rfl) ad m c news hx hl Ea h1 (by omega) h63 Eb grow
def qq:List ByteArray:=rU++q7++jV++xy++xA
def vO:Ex->Prop
 |.two op _ x y=>op∈qq/\vO x/\vO y
 |.neg _ x=>vO x
 |.not _ x=>vO x
 |.lZ _ _ x=>vO x
 |_=>True
def U0 (S:Mode->Ex×Mode):Prop:=∀m,vO (S m).1
theorem Wz {S:Mode->Ex×Mode}(h:U0 S){ops:List ByteArray}(ho:∀o∈ops,o∈qq):∀n e m,vO e->vO (l9 S ops n e m).1:=by
 intro n
 induction n with
 |zero=>exact λe m he=>he
 |succ n ih=>
   intro e m he;unfold l9;split
   . rename_i o hf
     exact ih _ _ ⟨ho o (nB hf),he,h _⟩
   . exact he
theorem AB {S:Mode->Ex×Mode}(h:U0 S){ops:List ByteArray}(ho:∀o∈ops,o∈qq):U0 (qk S ops):=λm=>Wz h ho _ _ _ (h m)
def WfL:Option vI->Prop
 |none=>True
 |some l=>U0 l.expr/\U0 l.J6/\U0 l.turn
section
variable {sub:Option vI} (h:WfL sub)
include h
theorem aak:U0 (gM sub):=λm=>by
 unfold gM;split
 . cases sub with
   |none=>trivial
   |some l=>exact h.1 _
 . split
   . trivial
   . trivial
   . trivial
   . split
     . trivial
     . split<;>trivial
   . trivial
theorem Rr:U0 (gN sub):=λm=>by
 unfold gN;split
 . cases sub with
   |none=>trivial
   |some l=>exact h.2.2 _
 . exact aak h m
theorem AE:U0 (iB sub):=AB (AB (Rr h) (λo h=>by simp [qq,h])) (λo h=>by simp [qq,h])
theorem aal:U0 (mo sub):=λm=>by
 unfold mo;simp only;split
 . rename_i o hf
   exact ⟨(show ∀o∈jV,o∈qq from λo h=>by simp [qq,h]) o (nB hf),AE h _,AE h _⟩
 . split
   . exact AE h m
   . exact AE h m
theorem Rs:U0 (gO sub):=λm=>by
 unfold gO;split
 . cases sub with
   |none=>trivial
   |some l=>exact h.2.1 _
 . exact aal h m
theorem Rt:U0 (j9 sub):=AB (AB (Rs h) (λo h=>by simp [qq,h])) (λo h=>by simp [qq,h])
end
theorem Kv:∀d,WfL (lvl d)
 |0=>trivial
 |d+1=>⟨Rt (Kv d),Rs (Kv d),Rr (Kv d)⟩
theorem aam (m:Mode):vO (nR m).1.1:=Rt (Kv 8) m
theorem AL (S:ByteArray)(i:Nat)(hi:i<=S.size):(dB S i).length<=S.size - i+1:=by
 have h1:=fg S bU i;rw [dB];split
 . rename_i h
   split
   . simp
   . rename_i hk
     have h2:=qZ S (aM S bU i) h (by simpa using hk);have h3:=AL S (eV S (aM S bU i) h).2 h2.2;simp only [List.length_cons];omega
 . simp
 termination_by S.size - i
theorem aev (S:ByteArray)(h:S.size<=300):(Mode.of (dB S 0)).len<=301:=by
 have h1:=AL S 0 (aN _)
 cases hk:dB S 0 with
 |nil=>exact absurd hk (zU S 0)
 |cons t ts=>
   rw [hk] at h1;simp only [List.length_cons] at h1;show ts.length+1<=301;omega
def WN:Tk->Prop
 |.name s=>0<s.size/\s.size<=8
 |.num n=>n<=9223372036854775807
 |.str s=>s.size<=12/\∀c∈s.data.toList,eE c=true
 |_=>True
def Pz (t:Tok):Prop:=WN t.k/\t.pl<=300
def yC:Mode->Prop
 |.live t ts=>Pz t/\(∀u∈ts,Pz u)/\ts.length<=300
 |.dead _ _=>True
theorem ML (S:ByteArray)(f:UInt8->Bool)(i:Nat):∀j,i<=j->j<aM S f i->∃h:j<S.size,f S[j]=true:=by
 intro j h1 h2;rw [aM] at h2;split at h2
 . rename_i hi
   split at h2
   . rename_i hf
     by_cases e:j=i
     . subst e;exact ⟨hi,hf⟩
     . exact ML S f (i+1) j (by omega) h2
   . omega
 . omega
 termination_by S.size - i
theorem Tt (S:ByteArray)(i:Nat)(h:i<S.size):WN (eV S i h).1:=by
 unfold eV;split
 . rename_i hl
   have h1:=gU S ct i h hl;have h2:=fg S ct (i+1);have h3:=fj S ct i (by omega);simp only;split
   . trivial
   . split
     . trivial
     . show 0<(S.extract _ _).size/\(S.extract _ _).size<=8
       rw [cH];omega
 . split
   . simp only
     split
     . trivial
     . show lM _<=_;omega
   . split
     . simp only
       split
       . split
         . rename_i h2 h3
           have h4:=fg S eE (i+1);refine ⟨?_,λc hc=>?_⟩
           . show (S.extract _ _).size<=12
             rw [cH];omega
           . obtain ⟨k,hk,rfl⟩:=List.getElem_of_mem hc
             have nQ:k<(S.extract (i+1) (aM S eE (i+1))).size:=by rw [<- nK];rw [dD] at hk;exact hk
             rw [cH] at nQ;obtain ⟨h5,h6⟩:=ML S eE (i+1) (i+1+k) (by omega) (by omega);have e:(S.extract (i+1) (aM S eE (i+1))).data.toList[k]=S[i+1+k]:=by
              simp [ByteArray.getElem_eq_getElem_data,ByteArray.data_extract]
             rw [e];exact h6
         . trivial
       . trivial
     . simp only
       split<;>trivial
theorem MN (S:ByteArray)(hS:S.size<=300)(i:Nat):∀t∈dB S i,Pz t:=by
 intro t ht;rw [dB] at ht;split at ht
 . rename_i hj
   split at ht
   . simp at ht;subst ht;exact ⟨trivial,by show aM S bU i<=300;omega⟩
   . rename_i hk
     rw [bY] at ht;rcases ht with rfl|ht
     . exact ⟨Tt S _ hj,by show aM S bU i<=300;omega⟩
     . have h1:=fg S bU i
       have h2:=(qZ S (aM S bU i) hj (by simpa using hk)).1;exact MN S hS _ t ht
 . simp at ht;subst ht;exact ⟨trivial,hS⟩
 termination_by S.size - i
 decreasing_by
 all_goals (simp_wf;omega)
theorem aew {S:ByteArray}(hS:S.size<=300):yC (Mode.of (dB S 0)):=by
 have h:=MN S hS 0;have hl:=AL S 0 (aN _);revert h hl
 cases dB S 0 with
 |nil=>exact λ_ _=>⟨⟨trivial,aN _⟩,λu hu=>by simp at hu,by simp⟩
 |cons t ts=>exact λh hl=>⟨h t (by simp),λu hu=>h u (by simp [hu]),by rw [aY] at hl;omega⟩
section
variable {m:Mode} (h:yC m)
include h
theorem yC.next:yC m.next:=by
 cases m with
 |dead e b=>trivial
 |live t ts=>
   cases ts with
   |nil=>exact h
   |cons u us=>exact ⟨h.2.1 u (by simp),λx hx=>h.2.1 x (by simp [hx]),by have:=h.2.2;rw [aY] at this;omega⟩
theorem yC.len:m.len<=301:=by
 cases m with
 |dead e b=>exact aN _
 |live t ts=>exact Nat.succ_le_succ h.2.2
theorem yC.place:m.place<=300:=by
 cases m with
 |dead e b=>exact aN _
 |live t ts=>exact h.1.2
theorem yC.wrong (e:Nat):yC (m.wrong e):=by cases m<;>trivial
theorem yC.take (s:ByteArray):yC (m.take s):=by
 unfold Mode.take;split
 . exact h.next
 . exact h.wrong 2
theorem yC.tk:WN m.tk:=by
 cases m with
 |dead e b=>trivial
 |live t ts=>exact h.1.1
theorem yC.name:m.name.1.1.size<=8/\m.name.1.2<=300/\yC m.name.2:=by
 unfold Mode.name;have h1:=h.tk;split
 . rename_i x hx
   rw [hx] at h1;exact ⟨h1.2,h.place,h.next⟩
 . exact ⟨aN _,aN _,h.wrong 2⟩
end
def CN {α:Type}(P:α->Prop)(one:Mode->α×Mode):Prop:=∀m,yC m->P (one m).1/\yC (one m).2
theorem WO {α:Type}{P:α->Prop}{one:Mode->α×Mode}(ho:CN P one):∀n l m,yC m->(∀x∈l,P x)->l≠[]->(∀x∈(fm one n l m).1,P x)/\(fm one n l m).1≠[]/\yC (fm one n l m).2:=by
 intro n
 induction n with
 |zero=>exact λl m hm hl hn=>⟨hl,hn,hm⟩
 |succ n ih=>
   intro l m hm hl hn;unfold fm;split
   . obtain ⟨h1,h2⟩:=ho _ hm.next
     exact ih _ _ h2 (λx hx=>by
      rw [dm,dy] at hx;rcases hx with hx|rfl
      . exact hl x hx
      . exact h1) (by simp)
   . exact ⟨hl,hn,hm⟩
theorem WQ {α:Type}(one:Mode->α×Mode):∀n l m,(fm one n l m).1.length<=l.length+n:=by
 intro n
 induction n with
 |zero=>exact λl m=>af _
 |succ n ih=>
   intro l m;unfold fm;split
   . have:=ih (l++[(one m.next).1]) (one m.next).2
     rw [au,iH] at this;omega
   . exact Nat.le_add_right _ _
theorem BW {α:Type}{P:α->Prop}{one:Mode->α×Mode}(ho:CN P one){m:Mode}(hm:yC m):(cC one m).1.length<=302:=by
 have h1:=WQ one (one m).2.len [(one m).1] (one m).2;have h2:=(ho m hm).2.len;unfold cC;rw [iH] at h1;omega
theorem tN {α:Type}{P:α->Prop}{one:Mode->α×Mode}(ho:CN P one){m:Mode}(hm:yC m):(∀x∈(cC one m).1,P x)/\(cC one m).1≠[]/\yC (cC one m).2:=by
 obtain ⟨h1,h2⟩:=ho m hm;exact WO ho _ _ _ h2 (λx hx=>by simp at hx;subst hx;exact h1) (by simp)
def mN (n:Nm):Prop:=n.1.size<=8/\n.2<=300
theorem lO:CN mN Mode.name:=λ_ h=>⟨⟨h.name.1,h.name.2.1⟩,h.name.2.2⟩
theorem MO:CN (·<=2) mF:=λm h=>by
 unfold mF;split
 . exact ⟨aN _,h.next⟩
 . split
   . exact ⟨by show 1<=2;omega,h.next⟩
   . exact ⟨by show 2<=2;omega,h.take _⟩
theorem KD:CN (λc:Nm×Nat=>mN c.1/\c.2<=2) mS:=λm h=>⟨⟨(lO m h).1,(MO _ h.name.2.2).1⟩,(MO _ h.name.2.2).2⟩
def KE (v:qD):Prop:=(v.null=true/\v.n=0/\v.s=ByteArray.empty)\/(v.null=false/\((v.kind=0/\bZ v.n/\v.s=ByteArray.empty)\/(v.kind=1/\v.n=0/\v.s.size<=12/\∀c∈v.s.data.toList,eE c=true)\/(v.kind=2/\(v.n=0\/v.n=1)/\v.s=ByteArray.empty)))
theorem Jc:KE EL:=.inr ⟨rfl,.inl ⟨rfl,by unfold bZ EL;decide,rfl⟩⟩
theorem Jd:CN KE gw:=λm h=>by
 unfold gw;split
 . have h1:=h.next.tk
   split
   . rename_i n hn
     rw [hn] at h1;have h2:n<=9223372036854775807:=h1;exact ⟨.inr ⟨rfl,.inl ⟨rfl,by unfold bZ;simp only;omega,rfl⟩⟩,h.next.next⟩
   . exact ⟨Jc,h.next.wrong 2⟩
 . have h1:=h.tk
   split
   . rename_i n hn
     rw [hn] at h1;have h2:n<=9223372036854775807:=h1;exact ⟨.inr ⟨rfl,.inl ⟨rfl,by unfold bZ;simp only;omega,rfl⟩⟩,h.next⟩
   . rename_i s hs
     rw [hs] at h1;exact ⟨.inr ⟨rfl,.inr (.inl ⟨rfl,rfl,h1.1,h1.2⟩)⟩,h.next⟩
   . split
     . exact ⟨.inr ⟨rfl,.inr (.inr ⟨rfl,.inr rfl,rfl⟩)⟩,h.next⟩
     . split
       . exact ⟨.inr ⟨rfl,.inr (.inr ⟨rfl,.inl rfl,rfl⟩)⟩,h.next⟩
       . split
         . exact ⟨.inl ⟨rfl,rfl,rfl⟩,h.next⟩
         . exact ⟨Jc,h.wrong 2⟩
def xK (r:oz):Prop:=r.vals≠[]/\(∀v∈r.vals,KE v)/\r.vals.length<=302
theorem RA:CN xK fW:=λm h=>by
 obtain ⟨h1,h2,h3⟩:=tN Jd (h.take cI);exact ⟨⟨h2,h1,BW Jd (h.take cI)⟩,h3.take _⟩
theorem WR:∀n l m,yC m->(∀x∈l,xK x)->l≠[]->(∀x∈(jw n l m).1,xK x)/\(jw n l m).1≠[]/\yC (jw n l m).2:=by
 intro n
 induction n with
 |zero=>exact λl m hm hl hn=>⟨hl,hn,hm⟩
 |succ n ih=>
   intro l m hm hl hn;unfold jw;split
   . obtain ⟨h1,h2⟩:=RA m hm
     exact ih _ _ h2 (λx hx=>by
      rw [dm,dy] at hx;rcases hx with hx|rfl
      . exact hl x hx
      . exact h1) (by simp)
   . exact ⟨hl,hn,hm⟩
theorem WS:∀n l m,(jw n l m).1.length<=l.length+n:=by
 intro n
 induction n with
 |zero=>exact λl m=>af _
 |succ n ih=>
   intro l m;unfold jw;split
   . have:=ih (l++[(fW m).1]) (fW m).2
     rw [au,iH] at this;omega
   . exact Nat.le_add_right _ _
def oO {α:Type}(S:Mode->α×Mode):Prop:=∀m,yC m->yC (S m).2
theorem PA {S:Mode->Ex×Mode}(h:oO S){ops:List ByteArray}:∀n e m,yC m->yC (l9 S ops n e m).2:=by
 intro n
 induction n with
 |zero=>exact λe m hm=>hm
 |succ n ih=>
   intro e m hm;unfold l9;split
   . exact ih _ _ (h _ hm.next)
   . exact hm
theorem uS {S:Mode->Ex×Mode}(h:oO S){ops:List ByteArray}:oO (qk S ops):=λm hm=>PA h _ _ _ (h m hm)
def ab9:Option vI->Prop
 |none=>True
 |some l=>oO l.expr/\oO l.J6/\oO l.turn
section
variable {sub:Option vI} (h:ab9 sub)
include h
theorem Tv:oO (gM sub):=λm hm=>by
 unfold gM;split
 . cases sub with
   |none=>exact hm.wrong 3
   |some l=>exact (h.1 _ hm.next).take _
 . split
   . exact hm.next
   . exact hm.next
   . exact hm.next
   . split
     . exact hm.next
     . split
       . exact hm.next
       . exact hm.wrong 2
   . exact hm.wrong 2
theorem Je:oO (gN sub):=λm hm=>by
 unfold gN;split
 . cases sub with
   |none=>exact hm.wrong 3
   |some l=>exact h.2.2 _ hm.next
 . exact Tv h m hm
theorem FF:oO (iB sub):=uS (uS (Je h))
theorem Tw:oO (mo sub):=λm hm=>by
 have ht:=FF h m hm;unfold mo;simp only;split
 . exact FF h _ ht.next
 . split
   . split
     . exact ht.next.next.take _
     . exact ht.next.take _
   . exact ht
theorem Jf:oO (gO sub):=λm hm=>by
 unfold gO;split
 . cases sub with
   |none=>exact hm.wrong 3
   |some l=>exact h.2.1 _ hm.next
 . exact Tw h m hm
theorem Jg:oO (j9 sub):=uS (uS (Jf h))
end
theorem AO:∀d,ab9 (lvl d)
 |0=>trivial
 |d+1=>⟨Jg (AO d),Jf (AO d),Je (AO d)⟩
theorem Jh:oO nR:=λm hm=>Jg (AO 8) m hm
theorem tO {α:Type}{one:Mode->α×Mode}(h:oO one):oO (cC one):=λ_ hm=>(tN (P:=λ_=>True) (λm hm=>⟨trivial,h m hm⟩) hm).2.2
theorem Tx:oO Mode.name:=λ_ hm=>hm.name.2.2
theorem MP:oO eL:=λ_ hm=>Jh _ (hm.name.2.2.take vJ)
theorem KF:oO dC:=λm hm=>by
 unfold dC;show yC (if _ then _ else _);split
 . exact hm.name.2.2.next
 . exact hm.name.2.2
theorem Ji:oO jO:=λm hm=>by
 have h1:yC (m.name.2.take vJ):=hm.name.2.2.take vJ;unfold jO;simp only;split
 . split
   . exact (h1.next.take _).take _
   . exact (h1.next.take _).name.2.2.take _
 . split
   . exact ((h1.wrong 2).take _).take _
   . exact ((h1.wrong 2).take _).name.2.2.take _
theorem PB {m:Mode}(hm:yC m):(dh m).1.pl<=300/\yC (dh m).2:=by
 have hp:=hm.place;unfold dh;split
 . exact ⟨hp,Jh _ hm.next⟩
 . split
   . exact ⟨hp,tO MP _ hm.next⟩
   . split
     . exact ⟨hp,((hm.next.name.2.2.take wy).name.2.2.take vJ).name.2.2⟩
     . split
       . refine ⟨hp,?_⟩
         simp only;split
         . exact tO Ji _ ((tO Tx _ hm.next).take gW)
         . exact tO Ji _ (hm.next.take gW)
       . split
         . exact ⟨hp,tO KF _ hm.next⟩
         . simp only
           split
           . exact ⟨hp,(hm.take fl).next⟩
           . exact ⟨hp,(hm.take fl).wrong 2⟩
theorem PD:∀n l m,yC m->(∀x∈l,x.pl<=300)->(∀x∈(eC n l m).1,x.pl<=300)/\∃r,(eC n l m).1=l++r:=by
 intro n
 induction n with
 |zero=>exact λl m _ hl=>⟨hl,[],by simp [eC]⟩
 |succ n ih=>
   intro l m hm hl;unfold eC;split
   . obtain ⟨h1,h2⟩:=PB hm.next
     obtain ⟨h3,r,h4⟩:=ih (l++[(dh m.next).1]) _ h2 (λx hx=>by
      rw [dm,dy] at hx;rcases hx with hx|rfl
      . exact hl x hx
      . exact h1)
     exact ⟨h3,(dh m.next).1::r,by rw [h4];simp⟩
   . exact ⟨hl,[],by simp⟩
def PE:xZ->Prop
 |.create t cols=>mN t/\cols≠[]/\(∀c∈cols,mN c.1/\c.2<=2)/\cols.length<=302
 |.drop t=>mN t
 |.load t rows=>mN t/\rows≠[]/\(∀r∈rows,xK r)/\rows.length<=302
 |.wu u t cols e _=>mN u/\mN t/\cols≠[]/\(∀n∈cols,mN n)/\cols.length<=302/\vO e
 |.uw u t=>mN u/\mN t
 |.query ss=>∃s r,ss=s::r/\mN s.table/\s.pl<=300/\∀x∈r,x.pl<=300
theorem MQ {m:Mode}(hm:yC m):PE (aV m).1:=by
 unfold aV;split
 . have h1:=hm.next.name.2.2.take cI
   exact ⟨(lO _ hm.next).1,(tN KD h1).2.1,(tN KD h1).1,BW KD h1⟩
 . split
   . exact (lO _ hm.next).1
   . split
     . obtain ⟨h1,h2⟩:=RA _ hm.next.name.2.2
       obtain ⟨h3,h4,-⟩:=WR (fW m.next.name.2).2.len [(fW m.next.name.2).1] (fW m.next.name.2).2 h2 (λx hx=>by simp at hx;subst hx;exact h1) (by simp);have h5:=WS (fW m.next.name.2).2.len [(fW m.next.name.2).1] (fW m.next.name.2).2;have h6:=h2.len;exact ⟨(lO _ hm.next).1,h4,h3,by rw [iH] at h5;show List.length _<=302;omega⟩
     . split
       . have h1:=(hm.next.name.2.2.take wy).name.2.2.take cI
         exact ⟨(lO _ hm.next).1,(lO _ (hm.next.name.2.2.take wy)).1,(tN lO h1).2.1,(tN lO h1).1,BW lO h1,aam _⟩
       . split
         . exact ⟨(lO _ hm.next).1,(lO _ (hm.next.name.2.2.take wy)).1⟩
         . have h1:=(lO _ (hm.take kc)).1
           obtain ⟨h2,r,h3⟩:=PD (m.take kc).name.2.len [{ bare kc m.place with table:=(m.take kc).name.1 }] (m.take kc).name.2 (hm.take kc).name.2.2 (λx hx=>by simp at hx;subst hx;exact hm.place);refine ⟨_,r,h3,h1,hm.place,λx hx=>h2 x (by rw [h3];exact List.mem_append_right _ hx)⟩
theorem MR {S:ByteArray}{c:xZ}(h:gP S=.inl c):PE c:=by
 unfold gP at h;split at h
 . cases h
 . rename_i hs
   simp only at h;split at h
   . cases h
   . cases h;exact MQ (aew (by omega))
   . cases h
end Go.Proofs.YteniahoehoncjaaGreatDoor
