import Derived.Test.YteniahoehoncjaaGreatDoorQAO
import Derived.BigQuiet
set_option maxHeartbeats 99999999
set_option maxRecDepth 100000
namespace Go.Proofs.YteniahoehoncjaaGreatDoor
open Go.RowKit
namespace S
def gT (w:World)(b off:Nat)(cs:List Cl):Prop:=
 ∀i c,cs[i]?=some c->w.cell? ⟨b,off+i*3,none⟩=some (.bool c.null)/\w.cell? ⟨b,off+i*3+1,none⟩=some (.int .i64 c.n)/\w.cell? ⟨b,off+i*3+2,none⟩=some (.string c.s)
theorem gT.kept {K:Nat->Prop}{w w':World}{b off:Nat}{cs:List Cl}(h:gT w b off cs)(hk:aQ K w w')(hb:K b):gT w' b off cs:=by
 intro i c hc;obtain ⟨h1,h2,h3⟩:=h i c hc;exact ⟨(hk.cell (p:=⟨b,_,none⟩) hb).trans h1,(hk.cell (p:=⟨b,_,none⟩) hb).trans h2,(hk.cell (p:=⟨b,_,none⟩) hb).trans h3⟩
theorem gT.drop {w:World}{b off:Nat}{cs:List Cl}(h:gT w b off cs)(n:Nat):gT w b (off+n*3) (cs.drop n):=by
 intro i c hc;rw [gx] at hc;have:=h (n+i) c hc;rw [show off+n*3+i*3=off+(n+i)*3 by omega];exact this
def vY (c:Cl):Prop:=bZ c.n/\c.s.size<=12
def gd (k:Int)(cs:List Cl):List Bool:=cs.flatMap (jC k)
theorem pQ (k:Int)(cs:List Cl)(c:Cl):gd k (cs++[c])=gd k cs++jC k c:=by simp [gd,List.flatMap_append]
theorem pU (k:Int)(cs:List Cl)(h:∀c∈cs,vY c):(gd k cs).length<=168*cs.length:=by
 induction cs with
 |nil=>simp [gd]
 |cons c r ih=>
   have e:gd k (c::r)=jC k c++gd k r:=rfl;have h1:=Ec k c (h c (by simp)).1;have h2:=(h c (by simp)).2;have h3:=ih (λd hd=>h d (by simp [hd]));rw [e,au,aY];omega
theorem dF {α:Type}{cs:List α}{k:Nat}{c:α}(h:cs[k]?=some c):cs.take (k+1)=cs.take k++[c]:=by
 rw [dW,h];rfl
theorem Ed (K:Nat->Prop)(p:Nat)(l:List Bool)(k:Int)(cs:List Cl)(a:Option Addr)(b off cap:Nat)(w:World)(hw:Writer K w p l)
 (ha:0<cs.length->a=some ⟨b,off,none⟩) (hc:gT w b off cs) (hK:0<cs.length->K b) (kW:∀c∈cs,vY c) (hlen:cs.length<=64) (hb:l.length<=1000) :
 Calls Tryz.prog 310 #[.agg #[],.pointer (some ⟨p,0,none⟩),.int .i64 k,.slice a cs.length cap] w λe w'=>e=.returned (.tuple #[])/\Writer K w' p (l++gd k cs)/\aQ K w w':=by
 have HC:=hide hc;have HO:=hide kW;clear hc kW;go_enter Tryz.func310,Tryz.ntmps310;go_wp2;go_loopw [12] (λc wr=>∃i:Nat,i<=cs.length/\c=.int .i64 i/\Writer K wr p (l++gd k (cs.take i))/\aQ K w wr) (λc _=>cs.length - (intOf c).toNat)
 case atStart=>exact ⟨0,aN _,rfl,by simpa [gd] using hw.alloc _,(aQ.refl K w).alloc hw.old _⟩
 case round=>
  obtain ⟨i,hi,rfl,uf,vm⟩:=hrel;by_cases cF:i<cs.length
  . have jI:(i:Int)<(cs.length:Int):=by omega
    obtain ⟨c,kM⟩:∃c,cs[i]?=some c:=⟨cs[i],ah cF⟩;obtain rfl:=ha (by omega);obtain ⟨c0,c1,c2⟩:=(ae HC).kept vm (hK (by omega)) i c kM;have HW:=hide uf;have HK:=hide vm;have HI:=hide kM;clear hw uf vm kM ha hK;have ph:b<wr.heap.size:=aX _ _ c0;go_wp2_with fail;have hm:=ae HO c (aG (ae HI));have hle:=pU k (cs.take i) (λd hd=>ae HO d (fx hd));rw [bV] at hle;refine (vX K p _ k c _ ((ae HW).alloc _) hm.1 (by have:=hm.2;omega) (by rw [au];omega)).mono ?_;rintro e w1 ⟨rfl,h2,h3⟩;have H2:=hide h2;have H3:=hide (((ae HK).alloc (ae HW).old _).trans h3);clear h2 h3 hm hle;go_wp2;go_roundw
    case rel=>
     refine ⟨i+1,by omega,by go_num,?_,ae H3⟩;rw [dF (ae HI),pQ,<- bh];exact ae H2
    case measure=>simp [intOf];omega
  . obtain rfl:i=cs.length:=by omega
    have HW:=hide uf;have HK:=hide vm;clear hw uf vm;go_wp2;go_end0;refine ⟨rfl,?_,ae HK⟩;have:=ae HW
    rwa [aP (af _)] at this
end S
namespace S
def Cl.beq (a b:Cl):Bool:=a.null==b.null&&a.n==b.n&&a.s.toList==b.s.toList
theorem Il (c d:Cl)(w:World):(binOp .neq 214 (.agg #[.bool c.null,.int .i64 c.n,.string c.s]) (.agg #[.bool d.null,.int .i64 d.n,.string d.s])).run Tryz.prog w=.ok (.bool (!c.beq d)) w:=by
 go_simp;by_cases h1:c.null=d.null<;>by_cases h2:c.n=d.n<;>by_cases h3:c.s.toList=d.s.toList<;>simp [Cl.beq,h1,h2,h3]
theorem Cl.beq_iff (a b:Cl):a.beq b=true↔a=b:=by
 constructor
 . intro h
   simp only [Cl.beq,Bool.and_eq_true,beq_iff_eq] at h;have h3:a.s=b.s:=by
    have:=h.2;rw [cZ,cZ] at this
    cases ha:a.s;cases hb:b.s
    rw [ha,hb] at this;congr 1;exact iK.1 this
   exact Cl.ext' h.1.1 h.1.2 h3
 . rintro rfl;simp [Cl.beq]
theorem yj {α:Type}{p:α->Bool}:∀(cs:List α) (i:Nat),i<=cs.length->(∀j c,j<i->cs[j]?=some c->p c=true)->(∀c,cs[i]?=some c->p c=false)->(cs.takeWhile p).length=i:=by
 intro cs
 induction cs with
 |nil=>intro i hi _ _;simp at hi;simp [hi]
 |cons c r ih=>
   intro i hi h1 h2
   cases i with
   |zero=>rw [eN,h2 c (by simp)];rfl
   |succ i=>
     rw [eN,h1 0 c (by omega) (by simp),aH rfl,aY];rw [ih i (by simpa using hi) (λj d hj hd=>h1 (j+1) d (by omega) (by simpa using hd)) (λd hd=>h2 d (by simpa using hd))]
def fr (cs:List Cl):Nat:=match cs with|[]=>0|c::r=>((c::r).takeWhile λd=>d.beq c).length
theorem JH (cs:List Cl)(a:Option Addr)(b off cap:Nat)(w:World)(ha:0<cs.length->a=some ⟨b,off,none⟩)(hc:gT w b off cs)(hlen:cs.length<=1000) :
 Calls Tryz.prog 294 #[.slice a cs.length cap] w λe w'=>e=.returned (.int .i64 (fr cs:Int))/\Below w.heap.size w w':=by
 have HC:=hide hc;clear hc;go_enter Tryz.func294,Tryz.ntmps294;go_wp2;go_loopw [7] (λc wr=>∃i:Nat,i<=cs.length/\c=.int .i64 i/\(∀j c d,j<i->cs[j]?=some c->cs[0]?=some d->c.beq d=true)/\Below w.heap.size w wr) (λc _=>cs.length - (intOf c).toNat)
 case atStart=>exact ⟨0,aN _,rfl,λj _ _ h=>by omega,ag _ _⟩
 case round=>
  obtain ⟨i,hi,rfl,kT,kU⟩:=hrel;have HA:=hide kT;clear kT;by_cases cF:i<cs.length
  . have jI:(i:Int)<(cs.length:Int):=by omega
    have ar8:(0:Int)<(cs.length:Int):=by omega
    have aps:0<cs.length:=by omega
    obtain ⟨c,kM⟩:∃c,cs[i]?=some c:=⟨cs[i],ah cF⟩;obtain ⟨d,hdi⟩:∃d,cs[0]?=some d:=⟨cs[0],ah (by omega)⟩;obtain rfl:=ha (by omega);obtain ⟨c0,c1,c2⟩:=(ae HC) i c kM;obtain ⟨d0,d1,d2⟩:=(ae HC) 0 d hdi;rw [oV,iY] at d0 d1 d2;have ph:b<w.heap.size:=aX _ _ c0;have Ze:b<wr.heap.size:=aF ph kU.size;rw [<- kU.cell (p:=⟨b,_,none⟩) ph] at c0 c1 c2 d0 d1 d2;have HB:=hide kU;have HI:=hide kM;have HD:=hide hdi;clear kM hdi ha kU;by_cases hq:c.beq d=true
    . have iq:∀u,(binOp .neq 214 (.agg #[.bool c.null,.int .i64 c.n,.string c.s]) (.agg #[.bool d.null,.int .i64 d.n,.string d.s])).run Tryz.prog u=.ok (.bool false) u:=λu=>by rw [Il,hq];rfl
      have HQ:=hide hq;clear hq;go_wp2_with fail;go_region;go_wp2;go_roundw
      case rel=>
       refine ⟨i+1,by omega,by go_num,?_,((ae HB).alloc (ae HB).size _).drew⟩;intro j c' d' hj JI hd';by_cases JJ:j=i
       . subst JJ
         have e1:c'=c:=aS (JI.symm.trans (ae HI));have e2:d'=d:=aS (hd'.symm.trans (ae HD));rw [e1,e2];exact ae HQ
       . exact ae HA j c' d' (by omega) JI hd'
      case measure=>simp [intOf];omega
    . have Co:c.beq d=false:=by simpa using hq
      have iq:∀u,(binOp .neq 214 (.agg #[.bool c.null,.int .i64 c.n,.string c.s]) (.agg #[.bool d.null,.int .i64 d.n,.string d.s])).run Tryz.prog u=.ok (.bool true) u:=λu=>by rw [Il,Co];rfl
      have HQ:=hide Co;clear hq Co;go_wp2_with fail;go_region;go_wp2;go_ret;refine ⟨aU Ending.returned (aU (Value.int IntKind.i64) ?_),((ae HB).alloc (ae HB).size _).drew⟩
      cases hcs:cs with
      |nil=>subst hcs;simp at cF
      |cons c' r=>
        subst hcs;have hd':c'=d:=by simpa using ae HD
        subst hd';have:=yj (p:=λe=>e.beq c') (c'::r) i (by omega) (λj e hj he=>ae HA j e c' hj he (by simp)) (λe he=>by
         have:e=c:=aS (he.symm.trans (ae HI));rw [this];exact ae HQ)
        rw [fr,this]
  . obtain rfl:i=cs.length:=by omega
    have HB:=hide kU;clear kU;go_wp2;go_ret;refine ⟨aU Ending.returned (aU (Value.int IntKind.i64) ?_),ae HB⟩
    cases hcs:cs with
    |nil=>simp [fr]
    |cons c r=>
      subst hcs;have:=yj (p:=λd=>d.beq c) (c::r) (c::r).length (af _) (λj d hj hd=>ae HA j d c hj hd (by simp)) (λd hd=>by simp at hd);rw [fr,this]
theorem Ee {cs:List Cl}(h:0<cs.length):0<fr cs:=by
 cases cs with
 |nil=>simp at h
 |cons c r=>
   have:c.beq c=true:=(Cl.beq_iff c c).2 rfl;rw [fr,eN,this,aH rfl];simp
theorem xU {α:Type}(p:α->Bool)(cs:List α):(cs.takeWhile p).length<=cs.length:=by
 have:=aU List.length (pg (p:=p) (l:=cs));rw [au] at this;omega
theorem QL (cs:List Cl):fr cs<=cs.length:=by
 cases cs with
 |nil=>simp [fr]
 |cons c r=>exact xU _ _
def qT (k:Int):Nat->List Cl->List Bool
 |0,_=>[]
 |_+1,[]=>[]
 |f+1,c::r=>bitsOf (fr (c::r) - 1) 8++jC k c++qT k f ((c::r).drop (fr (c::r)))
def mQ (k:Int)(cs:List Cl):List Bool:=qT k cs.length cs
theorem GD (k:Int):∀(f:Nat) (cs:List Cl),cs.length<=f->qT k f cs=mQ k cs:=by
 intro f
 induction f using Nat.strongRecOn with
 |_ f ih=>
   intro cs hf
   cases cs with
   |nil=>cases f<;>rfl
   |cons c r=>
     cases f with
     |zero=>simp at hf
     |succ f=>
       have hp:=Ee (cs:=c::r) (by simp);have hl:=QL (c::r);show bitsOf (fr (c::r) - 1) 8++jC k c++qT k f ((c::r).drop (fr (c::r)))=bitsOf (fr (c::r) - 1) 8++jC k c++qT k r.length ((c::r).drop (fr (c::r)));rw [ih f (by omega) _ (by rw [cu];simp at hf ⊢;omega)];by_cases cF:r.length<f+1
       . rw [ih r.length cF _ (by rw [cu];simp;omega)]
       . simp at hf;omega
theorem uo (k:Int)(c:Cl)(r:List Cl):mQ k (c::r)=bitsOf (fr (c::r) - 1) 8++jC k c++mQ k ((c::r).drop (fr (c::r))):=by
 have hp:=Ee (cs:=c::r) (by simp);show bitsOf (fr (c::r) - 1) 8++jC k c++qT k r.length ((c::r).drop (fr (c::r)))=_;rw [GD k r.length _ (by rw [cu];simp;omega)]
end S
namespace S
theorem Ef (k:Int)(cs:List Cl)(h:∀c∈cs,vY c):(mQ k cs).length<=176*cs.length:=by
 suffices H:∀n,∀cs:List Cl,cs.length=n->(∀c∈cs,vY c)->(mQ k cs).length<=176*cs.length from H _ cs rfl h
 intro n
 induction n using Nat.strongRecOn with
 |_ n ih=>
   intro cs hn h
   cases cs with
   |nil=>simp [mQ,qT]
   |cons c r=>
     have hp:=Ee (cs:=c::r) (by simp);have hl:=QL (c::r);have h1:=Ec k c (h c (by simp)).1;have h2:=(h c (by simp)).2;have h3:=ih ((c::r).drop (fr (c::r))).length (by rw [cu,<- hn];omega) _ rfl (λd hd=>h d (jb hd));rw [uo];simp only [List.length_append,bk];rw [cu] at h3;omega
theorem GF (K:Nat->Prop)(p:Nat)(l:List Bool)(k:Int)(cs:List Cl)(a:Option Addr)(b off cap:Nat)(w:World)(hw:Writer K w p l)
 (ha:0<cs.length->a=some ⟨b,off,none⟩) (hc:gT w b off cs) (hK:0<cs.length->K b) (kW:∀c∈cs,vY c) (hlen:cs.length<=64) (GH:cs.length<=cap) (hb:l.length<=1000) :
 Calls Tryz.prog 292 #[.agg #[],.pointer (some ⟨p,0,none⟩),.int .i64 k,.slice a cs.length cap] w λe w'=>e=.returned (.tuple #[])/\Writer K w' p (l++mQ k cs)/\aQ K w w':=by
 have HC:=hide hc;have HO:=hide kW;have hle:=Ef k cs kW;clear hc kW;go_enter Tryz.func292,Tryz.ntmps292;go_wp2;go_loopw [3] (λcv wr=>∃(n m vF:Nat) (a':Option Addr) (x:List Bool),Hid (n+m=cs.length)/\cv=.slice a' m vF/\m<=vF/\(0<m->a'=some ⟨b,off+n*3,none⟩)/\Hid (x++mQ k (cs.drop n)=mQ k cs)/\Hid (Writer K wr p (l++x))/\Hid (aQ K w wr))
  (λcv _=>lenOf cv)
 case atStart=>exact ⟨0,cs.length,cap,a,[],hide (by omega),rfl,GH,by simpa using ha,by simp [Hid],by simpa [Hid] using hw.alloc _,(aQ.refl K w).alloc hw.old _⟩
 case round=>
  obtain ⟨n,m,vF,a',x,HNM,rfl,hmc,ha',HX,HW,HK⟩:=hrel;have ar9:n+m<=cs.length:=by have:=ae HNM;omega
  have agJ:cs.length<=n+m:=by have:=ae HNM;omega
  have hxl:x.length<=11264:=by
   have h1:=aU List.length (ae HX);rw [au] at h1;omega
  clear hw;by_cases hm:0<m
  . have xV:(0:Int)<(m:Int):=by omega
    obtain rfl:=ha' hm;have QM:=hK (by omega);have hcd:=((ae HC).kept (ae HK) QM).drop n;have xW:(cs.drop n).length=m:=by rw [cu];omega
    obtain ⟨c,r,Bo⟩:∃c r,cs.drop n=c::r:=by
     cases h:cs.drop n with
     |nil=>rw [h] at xW;simp at xW;omega
     |cons c r=>exact ⟨c,r,rfl⟩
    have hfp:=Ee (cs:=cs.drop n) (by omega);have yh:=QL (cs.drop n);have Eg:=hide (JH (cs.drop n) (some ⟨b,off+n*3,none⟩) b (off+n*3) vF wr (λ_=>rfl) hcd (by omega));rw [xW] at Eg yh;obtain ⟨f,hf⟩:∃f,f=fr (cs.drop n):=⟨_,rfl⟩;rw [<- hf] at Eg hfp yh;have HF:=hide hf;have HD:=hide Bo;have HCD:=hide hcd;clear ha' hcd xW hf Bo ha hK;go_wp2_with fail;refine (ae Eg).mono ?_;rintro e w1 ⟨rfl,h1⟩;have HB:=hide h1;clear h1 Eg;go_wp2_with fail;have C5:=gA (ae HB);have o9:=(ae HW).sW C5;have nN:=(ae HK).trans (aQ.nP C5 (ae HW).old);refine (jT K p _ _ _ _ o9 (by omega) (by omega) (by omega) (by rw [show Int.toNat 8=8 from rfl,au];omega)).mono ?_;rintro e w2 ⟨rfl,h2,h3⟩;have nQ:=nN.trans h3;obtain ⟨c0,c1,c2⟩:=((ae HC).kept nQ QM).drop n 0 c (by rw [ae HD];rfl);rw [oV,iY] at c0 c1 c2;have hm2:=ae HO c (jb (by rw [ae HD];exact dL));have H2:=hide h2;have um:=hide nQ;have HM:=hide hm2;clear C5 o9 nN h2 h3 nQ hm2;go_wp2_with fail;refine (vX K p _ k c _ (ae H2) (ae HM).1 (by have:=(ae HM).2;omega) (by simp only [List.length_append,bk];rw [show Int.toNat 8=8 from rfl];omega)).mono ?_;rintro e w3 ⟨rfl,h4,h5⟩;have H4:=hide h4;have Bi:=hide ((ae um).trans h5);clear h4 h5 c0 c1 c2;have UC:(f:Int)<=(m:Int):=by omega
    go_wp2;go_roundw
    case rel=>
     refine ⟨n+f,m - f,vF - f,_,x++bitsOf ((f:Int) - 1).toNat 8++jC k c,hide (by omega),rfl,by omega,?_,?_,?_,Bi⟩
     . intro RU
       rw [aA (by omega)];congr 2;omega
     . have hx:=ae HX
       rw [ae HD,uo,<- ae HD,<- ae HF,rL] at hx;show _=_;rw [<- hx,show ((f:Int) - 1).toNat=f - 1 by omega];simp only [List.append_assoc]
     . have h4:=ae H4
       show Writer _ _ _ _;simpa only [List.append_assoc,show Int.toNat 8=8 from rfl] using h4
    case measure=>show m - f<m;omega
  . obtain rfl:m=0:=by omega
    go_wp2;go_end0;refine ⟨rfl,?_,ae HK⟩;have hx:=ae HX;rw [oW (by omega)] at hx;have:mQ k []=[]:=rfl;rw [this,bH] at hx;rw [<- hx];exact ae HW
end S
namespace S
def oh (b:UInt8):Bool:=decide (32<=b.toNat)&&decide (b.toNat<=126)&&decide (b.toNat≠39)
def yk (s:ByteArray):Bool:=decide (s.size<=12)&&s.data.toList.all oh
theorem Bp (s:ByteArray)(i:Nat)(hi:i<s.size)(hb:oh s[i]=false):yk s=false:=by
 have:s.data.toList.all oh=false:=List.all_eq_false.2 ⟨s[i],by
  have h:s.data.toList[i]?=some s[i]:=by
   rw [ah (by rw [eU];exact hi)];rfl
  exact aG h,by simp [hb]⟩
 simp [yk,this]
theorem RV {b:UInt8}(h1:(32:Int)<=(b.toNat:Int))(h2:(b.toNat:Int)<=126)(h3:((b.toNat:Int)==39)=false):oh b=true:=by
 have h3':=aj.1 h3;have:b.toNat≠39:=by omega
 simp [oh,this];omega
theorem Eh {b:UInt8}(h1:(b.toNat:Int)<32):oh b=false:=by
 simp [oh];intro h;omega
theorem Cp {b:UInt8}(h1:(126:Int)<(b.toNat:Int)):oh b=false:=by
 have:¬b.toNat<=126:=by omega
 simp [oh,this]
theorem JK {b:UInt8}(h1:((b.toNat:Int)<32\/(126:Int)<(b.toNat:Int))\/((b.toNat:Int)==39)=true):oh b=false:=by
 rcases h1 with (h|h)|h
 . exact Eh h
 . exact Cp h
 . have:b.toNat=39:=by have:=bz.1 h;omega
   simp [oh,this]
theorem qB (s:ByteArray)(w:World)(hs:s.size<=140737488351232) :
 Calls Tryz.prog 102 #[.string s] w λe w'=>e=.returned (.bool (yk s))/\w=w':=by
 by_cases JL:s.size<=12
 . have acP:(s.size:Int)<=12:=by omega
   go_enter Tryz.func102,Tryz.ntmps102;go_wp2;go_loop [9] (λc=>∃i:Nat,i<=s.size/\c=.int .i64 i/\Hid ((s.data.toList.take i).all oh=true)) (λc=>s.size - (intOf c).toNat)
   case atStart=>exact ⟨0,aN _,rfl,hide (by simp)⟩
   case round=>
    obtain ⟨i,hi,rfl,HA⟩:=hrel;by_cases cF:i<s.size
    . have jI:(i:Int)<(s.size:Int):=by omega
      go_wp2
      . have hq:((s[i].toNat:Int)<32\/(126:Int)<(s[i].toNat:Int))\/((s[i].toNat:Int)==39)=true:=by assumption
        go_ret;exact ⟨aU Ending.returned (aU Value.bool (Bp s i cF (JK hq)).symm),rfl⟩
      . have hq:((32:Int)<=(s[i].toNat:Int)/\(s[i].toNat:Int)<=126)/\((s[i].toNat:Int)==39)=false:=by assumption
        go_round
        case rel=>
         refine ⟨i+1,by omega,by go_num,hide ?_⟩;rw [eQ (by rw [eU];exact cF),List.all_append,ae HA];have:=RV hq.1.1 hq.1.2 hq.2;simp only [List.all_cons,List.all_nil,Bool.and_true,Bool.true_and];exact this
        case measure=>simp [intOf];omega
      . have hq:(126:Int)<(s[i].toNat:Int):=by assumption
        go_ret;exact ⟨aU Ending.returned (aU Value.bool (Bp s i cF (Cp hq)).symm),rfl⟩
      . have hq:(s[i].toNat:Int)<32:=by assumption
        go_ret;exact ⟨aU Ending.returned (aU Value.bool (Bp s i cF (Eh hq)).symm),rfl⟩
    . go_wp2
      go_ret;refine ⟨aU Ending.returned (aU Value.bool ?_),rfl⟩;have:=ae HA;rw [aP (by rw [eU];omega)] at this;simp [yk,JL,this]
 . have acP:(12:Int)<(s.size:Int):=by omega
   go_enter Tryz.func102,Tryz.ntmps102;go_wp2;go_ret;refine ⟨aU Ending.returned (aU Value.bool ?_),rfl⟩;simp [yk,JL]
def okB (k:Int)(c:Cl):Bool:=
 if c.null then decide (c.n=0)&&c.s.toList.isEmpty else if k=0 then c.s.toList.isEmpty else if k=1 then decide (c.n=0)&&yk c.s else if k=2 then c.s.toList.isEmpty&&(decide (c.n=0)||decide (c.n=1)) else false
theorem Oj {s:ByteArray}(h:s.size=0):s=ByteArray.empty:=by
 cases s with
 |mk d=>congr 1;exact Array.eq_empty_of_size_eq_zero h
theorem JM (k:Int)(c:Cl)(w:World)(hs:c.s.size<=140737488351232) :
 Calls Tryz.prog 172 #[.agg #[.bool c.null,.int .i64 c.n,.string c.s],.int .i64 k] w λe w'=>e=.returned (.bool (okB k c))/\Below w.heap.size w w':=by
 obtain ⟨nl,n,s⟩:=c;simp only at hs
 cases nl
 . go_enter Tryz.func172,Tryz.ntmps172
   go_wp2_with (go_at_call 102;refine (qB s _ hs).mono ?_;rintro e w' ⟨rfl,rfl⟩)
   all_goals (go_ret;refine ⟨aU Ending.returned (aU Value.bool ?_),(ag _ _).alloc (af _) _⟩)
   all_goals first
    | (simp_all [okB];done)
    | (simp_all [okB];rw [show (n==0)=false from aj.2 ‹_›,Bool.false_or];rfl)
 . go_enter Tryz.func172,Tryz.ntmps172
   go_wp2
   all_goals (go_ret;refine ⟨aU Ending.returned (aU Value.bool ?_),(ag _ _).alloc (af _) _⟩)
   all_goals simp_all [okB]
theorem Ol (c:Cl)(w:World) :
 Calls Tryz.prog 306 #[.agg #[.bool c.null,.int .i64 c.n,.string c.s]] w λe w'=>e=.returned (.bool c.null)/\Below w.heap.size w w':=by
 go_enter Tryz.func306,Tryz.ntmps306;go_wp2;go_ret;exact ⟨rfl,(ag _ _).alloc (af _) _⟩
theorem GI (k:Int)(c:Cl)(q:Nat)(w:World)(hq:w.cell? ⟨q,0,none⟩=some (.int .i64 k))(hs:c.s.size<=140737488351232) :
 Calls Tryz.prog 171 #[.agg #[.bool c.null,.int .i64 c.n,.string c.s],.pointer (some ⟨q,0,none⟩)] w λe w'=>e=.returned (.bool (!okB k c))/\Below w.heap.size w w':=by
 have hqs:q<w.heap.size:=aX _ _ hq;go_enter Tryz.func171,Tryz.ntmps171;go_wp2_with (go_at_call 172;refine (JM k c _ hs).mono ?_;rintro e w' ⟨rfl,hb⟩);go_ret;exact ⟨rfl,((ag _ _).alloc (af _) _).trans (hb.mono (by simp))⟩
def idxOf (p:Cl->Bool)(cs:List Cl):Int:=if cs.any p then (cs.findIdx p:Int) else -1
theorem idxOf_hit {p:Cl->Bool}{cs:List Cl}{i:Nat}{c:Cl}(h:∀j d,j<i->cs[j]?=some d->p d=false)(hc:cs[i]?=some c)(hp:p c=true):idxOf p cs=(i:Int):=by
 have hl:i<cs.length:=(ak.1 hc).1;have ha:cs.any p=true:=np.2 ⟨c,aG hc,hp⟩;unfold idxOf;rw [aH ha];have:cs.findIdx p=i:=by
  rw [List.findIdx_eq hl];refine ⟨?_,λj hj=>?_⟩
  . rw [ah hl] at hc;rw [aS hc];exact hp
  . exact h j _ hj (ah (by omega))
 rw [this]
theorem idxOf_miss {p:Cl->Bool}{cs:List Cl}(h:∀(j:Nat) (d:Cl),cs[j]?=some d->p d=false):idxOf p cs=-1:=by
 unfold idxOf;rw [aA];simp only [Bool.not_eq_true];rw [kJ];intro x hx;obtain ⟨j,hj⟩:=cm hx;simp [h j x hj]
theorem GJ (cs:List Cl)(a:Option Addr)(b off cap:Nat)(w:World)(ha:0<cs.length->a=some ⟨b,off,none⟩)(hc:gT w b off cs)(hlen:cs.length<=1000) :
 Calls Tryz.prog 185 #[.slice a cs.length cap,.func (.func 306) #[] #[]] w λe w'=>e=.returned (.int .i64 (idxOf (λc=>c.null) cs))/\Below w.heap.size w w':=by
 have HC:=hide hc;clear hc;go_enter Tryz.func185,Tryz.ntmps185;go_wp2;go_loopw [8] (λc wr=>∃i:Nat,i<=cs.length/\c=.int .i64 i/\Below w.heap.size w wr/\Hid (∀j d,j<i->cs[j]?=some d->d.null=false)) (λc _=>cs.length - (intOf c).toNat)
 case atStart=>exact ⟨0,aN _,rfl,ag _ _,hide (λj d h=>by omega)⟩
 case round=>
  obtain ⟨i,hi,rfl,kU,HA⟩:=hrel;by_cases cF:i<cs.length
  . have jI:(i:Int)<(cs.length:Int):=by omega
    obtain ⟨c,kM⟩:∃c,cs[i]?=some c:=⟨cs[i],ah cF⟩;obtain rfl:=ha (by omega);obtain ⟨c0,c1,c2⟩:=(ae HC) i c kM;have ph:b<w.heap.size:=aX _ _ c0;have Ze:b<wr.heap.size:=aF ph kU.size;rw [<- kU.cell (p:=⟨b,_,none⟩) ph] at c0 c1 c2;have HB:=hide kU;have HI:=hide kM;clear kU kM ha;go_wp2_with fail;refine (Ol c wr).mono ?_;rintro e w1 ⟨rfl,h1⟩;have eI:=hide ((ae HB).trans (h1.mono (ae HB).size));clear h1 c0 c1 c2
    cases hp:c.null
    . have HP:=hide hp
      clear hp;go_wp2;go_roundw
      case rel=>
       refine ⟨i+1,by omega,by go_num,ae eI,hide ?_⟩;intro j d hj hd;by_cases JJ:j=i
       . subst JJ;rw [aS (hd.symm.trans (ae HI))];exact ae HP
       . exact ae HA j d (by omega) hd
      case measure=>simp [intOf];omega
    . have HP:=hide hp
      clear hp;go_wp2;go_ret;exact ⟨aU Ending.returned (aU (Value.int IntKind.i64) (idxOf_hit (ae HA) (ae HI) (ae HP)).symm),ae eI⟩
  . have HB:=hide kU
    clear kU;go_wp2;go_ret;exact ⟨aU Ending.returned (aU (Value.int IntKind.i64) (idxOf_miss (λj d hd=>ae HA j d (by have:=(ak.1 hd).1;omega) hd)).symm),ae HB⟩
theorem GK (k:Int)(q:Nat)(cs:List Cl)(a:Option Addr)(b off cap:Nat)(w:World)(ha:0<cs.length->a=some ⟨b,off,none⟩)(hc:gT w b off cs)(hlen:cs.length<=1000)
 (hq:w.cell? ⟨q,0,none⟩=some (.int .i64 k)) (hs:∀c∈cs,c.s.size<=140737488351232) :
 Calls Tryz.prog 185 #[.slice a cs.length cap,.func (.func 171) #[] #[.pointer (some ⟨q,0,none⟩)]] w λe w'=>e=.returned (.int .i64 (idxOf (λc=>!okB k c) cs))/\Below w.heap.size w w':=by
 have HC:=hide hc;have HQ:=hide hq;have HS:=hide hs;clear hc hq hs;go_enter Tryz.func185,Tryz.ntmps185;go_wp2;go_loopw [8] (λc wr=>∃i:Nat,i<=cs.length/\c=.int .i64 i/\Below w.heap.size w wr/\Hid (∀j d,j<i->cs[j]?=some d->(!okB k d)=false)) (λc _=>cs.length - (intOf c).toNat)
 case atStart=>exact ⟨0,aN _,rfl,ag _ _,hide (λj d h=>by omega)⟩
 case round=>
  obtain ⟨i,hi,rfl,kU,HA⟩:=hrel;by_cases cF:i<cs.length
  . have jI:(i:Int)<(cs.length:Int):=by omega
    obtain ⟨c,kM⟩:∃c,cs[i]?=some c:=⟨cs[i],ah cF⟩;obtain rfl:=ha (by omega);obtain ⟨c0,c1,c2⟩:=(ae HC) i c kM;have ph:b<w.heap.size:=aX _ _ c0;have Ze:b<wr.heap.size:=aF ph kU.size;rw [<- kU.cell (p:=⟨b,_,none⟩) ph] at c0 c1 c2;have HB:=hide kU;have HI:=hide kM;clear kU kM ha;go_wp2_with fail;refine (GI k c q wr (((ae HB).cell (p:=⟨q,0,none⟩) (aX _ _ (ae HQ))).trans (ae HQ)) (ae HS c (aG (ae HI)))).mono ?_;rintro e w1 ⟨rfl,h1⟩;have eI:=hide ((ae HB).trans (h1.mono (ae HB).size));clear h1 c0 c1 c2
    cases hp:okB k c
    . have HP:=hide hp
      clear hp;go_wp2;go_ret;exact ⟨aU Ending.returned (aU (Value.int IntKind.i64) (idxOf_hit (ae HA) (ae HI) (by rw [ae HP];rfl)).symm),ae eI⟩
    . have HP:=hide hp
      clear hp;go_wp2;go_roundw
      case rel=>
       refine ⟨i+1,by omega,by go_num,ae eI,hide ?_⟩;intro j d hj hd;by_cases JJ:j=i
       . subst JJ;rw [aS (hd.symm.trans (ae HI)),ae HP];rfl
       . exact ae HA j d (by omega) hd
      case measure=>simp [intOf];omega
  . have HB:=hide kU
    clear kU;go_wp2;go_ret;exact ⟨aU Ending.returned (aU (Value.int IntKind.i64) (idxOf_miss (λj d hd=>ae HA j d (by have:=(ak.1 hd).1;omega) hd)).symm),ae HB⟩
theorem zJ (p:Cl->Bool)(cs:List Cl):decide (0<=idxOf p cs)=cs.any p:=by
 unfold idxOf
 cases h:cs.any p
 . simp
 . simp
theorem Ll (cs:List Cl)(a:Option Addr)(b off cap:Nat)(w:World)(ha:0<cs.length->a=some ⟨b,off,none⟩)(hc:gT w b off cs)(hlen:cs.length<=1000) :
 Calls Tryz.prog 170 #[.slice a cs.length cap,.func (.func 306) #[] #[]] w λe w'=>e=.returned (.bool (cs.any λc=>c.null))/\Below w.heap.size w w':=by
 have HH:=hide (GJ cs a b off cap w ha hc hlen);have HI:=hide (zJ (λc=>c.null) cs);clear ha hc;go_enter Tryz.func170,Tryz.ntmps170;go_wp2_with fail;refine (ae HH).mono ?_;rintro e w1 ⟨rfl,h1⟩;generalize idxOf (λc=>c.null) cs=x at *;go_wp2;go_ret;exact ⟨aU Ending.returned (aU Value.bool (ae HI)),h1⟩
theorem Lm (k:Int)(q:Nat)(cs:List Cl)(a:Option Addr)(b off cap:Nat)(w:World)(ha:0<cs.length->a=some ⟨b,off,none⟩)(hc:gT w b off cs)(hlen:cs.length<=1000)
 (hq:w.cell? ⟨q,0,none⟩=some (.int .i64 k)) (hs:∀c∈cs,c.s.size<=140737488351232) :
 Calls Tryz.prog 170 #[.slice a cs.length cap,.func (.func 171) #[] #[.pointer (some ⟨q,0,none⟩)]] w λe w'=>e=.returned (.bool (cs.any λc=>!okB k c))/\Below w.heap.size w w':=by
 have HH:=hide (GK k q cs a b off cap w ha hc hlen hq hs);have HI:=hide (zJ (λc=>!okB k c) cs);clear ha hc hq hs;go_enter Tryz.func170,Tryz.ntmps170;go_wp2_with fail;refine (ae HH).mono ?_;rintro e w1 ⟨rfl,h1⟩;generalize idxOf (λc=>!okB k c) cs=x at *;go_wp2;go_ret;exact ⟨aU Ending.returned (aU Value.bool (ae HI)),h1⟩
theorem yl (k:Int)(cs:List Cl)(a:Option Addr)(b off cap:Nat)(w:World)(ha:0<cs.length->a=some ⟨b,off,none⟩)(hc:gT w b off cs)(hlen:cs.length<=1000)(hs:∀c∈cs,c.s.size<=140737488351232) :
 Calls Tryz.prog 156 #[.slice a cs.length cap,.int .i64 k] w λe w'=>e=.returned (.bool (cs.all (okB k)))/\Below w.heap.size w w':=by
 have NR:gT (w.alloc (.cells #[.int .i64 k] 161)) b off cs:=by
  intro i c h;obtain ⟨h1,h2,h3⟩:=hc i c h;have hb:b<w.heap.size:=aX _ _ h1;exact ⟨(oX _ _ _ hb).trans h1,(oX _ _ _ hb).trans h2,(oX _ _ _ hb).trans h3⟩
 have HH:=hide (Lm k w.heap.size cs a b off cap (w.alloc (.cells #[.int .i64 k] 161)) ha NR hlen (by rw [bK _ _ _ _ rfl];rfl) hs);have HA:Hid (cs.all (okB k)=!(cs.any λc=>!okB k c)):=hide (by rw [List.all_eq_not_any_not]);clear ha hc NR hs;go_enter Tryz.func156,Tryz.ntmps156;go_wp2_with fail;refine (ae HH).mono ?_;rintro e w1 ⟨rfl,h1⟩;generalize (cs.any λc=>!okB k c)=x at *;go_wp2;go_ret;exact ⟨aU Ending.returned (aU Value.bool (ae HA).symm),((ag _ _).alloc (af _) _).trans (h1.mono (by simp))⟩
theorem vZ {k:Int}{c:Cl}(hn:bZ c.n)(h:okB k c=true):vl k c:=by
 have e0:c.s.toList.isEmpty=true->c.s=ByteArray.empty:=by
  intro h;rw [cZ,List.isEmpty_iff] at h;exact Oj (by rw [<- eU,h];rfl)
 refine ⟨hn,?_⟩;unfold okB at h;split
 . rename_i h1
   rw [aH h1] at h;simp only [Bool.and_eq_true,decide_eq_true_eq] at h;exact ⟨h.1,e0 h.2⟩
 . rename_i h1
   rw [aA h1] at h;split
   . rename_i h2;rw [aH h2] at h;exact e0 h
   . rename_i h2
     rw [aA h2] at h;split
     . rename_i h3
       rw [aH h3] at h;simp only [Bool.and_eq_true,decide_eq_true_eq,yk] at h;refine ⟨h.1,h.2.1,λb hb=>?_⟩;have:=gH.1 h.2.2 b hb;simp only [oh,Bool.and_eq_true,decide_eq_true_eq] at this;exact ⟨this.1.1,this.1.2,this.2⟩
     . rename_i h3
       rw [aA h3] at h;split
       . rename_i h4
         rw [aH h4] at h;simp only [Bool.and_eq_true,Bool.or_eq_true,decide_eq_true_eq] at h;exact ⟨e0 h.1,h.2⟩
       . rename_i h4
         rw [aA h4] at h
         cases h
theorem Bq {k:Int}{c:Cl}(h:vl k c):vY c:=by
 refine ⟨h.1,?_⟩;have h2:=h.2;have z:ByteArray.empty.size=0:=rfl;split at h2
 . rw [h2.2];omega
 . split at h2
   . rw [h2];omega
   . split at h2
     . exact h2.2.1
     . split at h2
       . rw [h2.1];omega
       . exact h2.elim
end S
namespace S
def dr (cs:List Cl):List Int:=(cs.filter λc=>!c.null).map Cl.n
def leastOf:List Int->Int
 |[]=>0
 |n::r=>r.foldl min n
def nW:List Int->Int
 |[]=>0
 |n::r=>r.foldl max n
theorem Ln (cs:List Cl)(c:Cl)(h:c.null=true):dr (cs++[c])=dr cs:=by simp [dr,h]
theorem Om (cs:List Cl)(c:Cl)(h:c.null=false):dr (cs++[c])=dr cs++[c.n]:=by simp [dr,h]
theorem JN (l:List Int)(n:Int)(h:l≠[]):leastOf (l++[n])=min (leastOf l) n:=by
 cases l with
 |nil=>exact absurd rfl h
 |cons a r=>simp [leastOf]
theorem JO (l:List Int)(n:Int)(h:l≠[]):nW (l++[n])=max (nW l) n:=by
 cases l with
 |nil=>exact absurd rfl h
 |cons a r=>simp [nW]
theorem zK (r:List Int):∀a,r.foldl min a<=a/\∀x∈r,r.foldl min a<=x:=by
 induction r with
 |nil=>intro a;simp
 |cons b r ih=>
   intro a;have h:=ih (min a b);simp only [List.foldl_cons];refine ⟨by omega,λx hx=>?_⟩;rcases bY.1 hx with rfl|hx
   . omega
   . exact h.2 x hx
theorem zL (r:List Int):∀a,a<=r.foldl max a/\∀x∈r,x<=r.foldl max a:=by
 induction r with
 |nil=>intro a;simp
 |cons b r ih=>
   intro a;have h:=ih (max a b);simp only [List.foldl_cons];refine ⟨by omega,λx hx=>?_⟩;rcases bY.1 hx with rfl|hx
   . omega
   . exact h.2 x hx
theorem Ei {l:List Int}{x:Int}(h:x∈l):leastOf l<=x:=by
 cases l with
 |nil=>simp at h
 |cons a r=>
   have:=zK r a;rcases bY.1 h with rfl|h
   . exact this.1
   . exact this.2 x h
theorem On {l:List Int}{x:Int}(h:x∈l):x<=nW l:=by
 cases l with
 |nil=>simp at h
 |cons a r=>
   have:=zL r a;rcases bY.1 h with rfl|h
   . exact this.1
   . exact this.2 x h
theorem JQ (r:List Int):∀a,bZ a->(∀x∈r,bZ x)->bZ (r.foldl min a):=by
 induction r with
 |nil=>intro a h _;exact h
 |cons b r ih=>
   intro a h hr;simp only [List.foldl_cons];have hb:=hr b (by simp);exact ih _ (by unfold bZ at *;omega) (λx hx=>hr x (by simp [hx]))
theorem JR (r:List Int):∀a,bZ a->(∀x∈r,bZ x)->bZ (r.foldl max a):=by
 induction r with
 |nil=>intro a h _;exact h
 |cons b r ih=>
   intro a h hr;simp only [List.foldl_cons];have hb:=hr b (by simp);exact ih _ (by unfold bZ at *;omega) (λx hx=>hr x (by simp [hx]))
theorem qU {l:List Int}(h:∀x∈l,bZ x):bZ (leastOf l):=by
 cases l with
 |nil=>simp [leastOf,bZ]
 |cons a r=>exact JQ r a (h a (by simp)) (λx hx=>h x (by simp [hx]))
theorem Ej {l:List Int}(h:∀x∈l,bZ x):bZ (nW l):=by
 cases l with
 |nil=>simp [nW,bZ]
 |cons a r=>exact JR r a (h a (by simp)) (λx hx=>h x (by simp [hx]))
theorem Ek (l:List Int):leastOf l<=nW l:=by
 cases l with
 |nil=>simp [leastOf,nW]
 |cons a r=>have h1:=zK r a;have h2:=zL r a;simp only [leastOf,nW];omega
theorem xo {cs:List Cl}(h:∀c∈cs,bZ c.n):∀x∈dr cs,bZ x:=by
 intro x hx;simp only [dr,List.mem_map,List.mem_filter] at hx;obtain ⟨c,⟨hc,_⟩,rfl⟩:=hx;exact h c hc
def lW (l:List Int):Nat:=(nW l - leastOf l).toNat
theorem DG {l:List Int}(h:∀x∈l,bZ x):lW l<18446744073709551616:=by
 have h1:=qU h;have h2:=Ej h;unfold bZ at h1 h2;unfold lW;omega
theorem Lp {a b:Int}(ha:bZ a)(hb:bZ b)(h:b<=a):IntKind.u64.wrap (IntKind.u64.wrap a - IntKind.u64.wrap b)=(((a - b).toNat:Nat):Int):=by
 unfold bZ at ha hb;rw [fH,fH,fH];omega
theorem Lq (cs:List Cl)(a:Option Addr)(b off cap:Nat)(w:World)(ha:0<cs.length->a=some ⟨b,off,none⟩)(hc:gT w b off cs)(hlen:cs.length<=1000)(kW:∀c∈cs,bZ c.n) :
 Calls Tryz.prog 308 #[.slice a cs.length cap] w λe w'=>e=.returned (.tuple #[.int .i64 (leastOf (dr cs)),.int .i64 (bitLen (lW (dr cs)):Int)])/\Below w.heap.size w w':=by
 have HC:=hide hc;have HO:=hide kW;clear hc kW;go_enter Tryz.func308,Tryz.ntmps308;go_wp2;go_loopw [2,4,5,10] (λlv gv fv c wr=>∃i:Nat,i<=cs.length/\c=.int .i64 i/\lv=.int .i64 (leastOf (dr (cs.take i)))/\gv=.int .i64 (nW (dr (cs.take i)))/\fv=.bool (!(dr (cs.take i)).isEmpty)/\Hid (Below w.heap.size w wr)) (λ_ _ _ c _=>cs.length - (intOf c).toNat)
 case atStart=>exact ⟨0,aN _,rfl,rfl,rfl,rfl,hide (ag _ _)⟩
 case round=>
  obtain ⟨i,hi,rfl,rfl,rfl,rfl,HB⟩:=hrel;by_cases cF:i<cs.length
  . have jI:(i:Int)<(cs.length:Int):=by omega
    obtain ⟨c,kM⟩:∃c,cs[i]?=some c:=⟨cs[i],ah cF⟩;obtain rfl:=ha (by omega);obtain ⟨c0,c1,c2⟩:=(ae HC) i c kM;have ph:b<w.heap.size:=aX _ _ c0;have Ze:b<wr.heap.size:=aF ph (ae HB).size;rw [<- (ae HB).cell (p:=⟨b,_,none⟩) ph] at c0 c1 c2;have HT:=hide (dF kM);generalize cs.take i=pre at *;clear kM ha
    cases hn:c.null
    . rw [hn] at c0
      have Lr:=Om pre c hn;generalize dr pre=l at *
      cases hl:l.isEmpty
      . have iq:l≠[]:=by intro e;rw [e] at hl;simp at hl
        have HN:=hide Lr;have HNE:=hide iq;clear Lr iq;go_wp2_with fail;go_region;go_wp2;go_roundw
        case rel=>
         have e:dr (cs.take (i+1))=l++[c.n]:=by rw [ae HT,ae HN]
         refine ⟨i+1,by omega,by go_num,?_,?_,?_,hide (((ae HB).alloc (ae HB).size _).drew)⟩
         . rw [e,JN _ _ (ae HNE)];exact aU _ (by split<;>omega)
         . rw [e,JO _ _ (ae HNE)];exact aU _ (by split<;>omega)
         . rw [e];simp
        case measure=>simp [intOf];omega
      . have iq:l=[]:=by simpa using hl
        subst iq;have HN:=hide Lr;clear Lr;go_wp2_with fail;go_region;go_wp2;go_roundw
        case rel=>
         have e:dr (cs.take (i+1))=[c.n]:=by rw [ae HT,ae HN];rfl
         refine ⟨i+1,by omega,by go_num,?_,?_,?_,hide (((ae HB).alloc (ae HB).size _).drew)⟩
         . rw [e];rfl
         . rw [e];rfl
         . rw [e];rfl
        case measure=>simp [intOf];omega
    . rw [hn] at c0
      have Lr:=Ln pre c hn;generalize dr pre=l at *;have HN:=hide Lr;clear Lr;go_wp2;go_roundw
      case rel=>
       have e:dr (cs.take (i+1))=l:=by rw [ae HT,ae HN]
       refine ⟨i+1,by omega,by go_num,by rw [e],by rw [e],by rw [e],hide ((ae HB).alloc (ae HB).size _)⟩
      case measure=>simp [intOf];omega
  . obtain rfl:i=cs.length:=by omega
    have El:=xo (ae HO);have H1:=hide (Lp (Ej El) (qU El) (Ek _));have hsl:=DG El;have H2:=hide (show (nW (dr cs) - leastOf (dr cs)).toNat=lW (dr cs) from rfl);clear El;go_wp2_with fail;rw [ae H1,ae H2];generalize lW (dr cs)=sp at *;refine (Bn _ _ (by omega) (by omega)).mono ?_;rintro e w1 ⟨rfl,rfl⟩;rw [aZ];go_wp2;go_ret2;exact ⟨by rw [show lW (dr cs)=sp from ae H2];rfl,ae HB⟩
end S
end Go.Proofs.YteniahoehoncjaaGreatDoor
