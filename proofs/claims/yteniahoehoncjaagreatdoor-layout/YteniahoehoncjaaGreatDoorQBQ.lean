import Derived.Test.YteniahoehoncjaaGreatDoorQBE
import Derived.Test.YteniahoehoncjaaGreatDoorQBP
set_option maxHeartbeats 99999999
set_option maxRecDepth 100000
namespace Go.Proofs.YteniahoehoncjaaGreatDoor
open Go.RowKit
section
open Go.Maps
structure RQ (st:ou):Prop where
 tab:∀x∈st.tabs,0<x.2.1.length/\pS x.2.1/\jh x.2.1 x.2.2/\x.2.2.length<=64
 gr:∀u t g tb,eA st.YU (gk u t)=some g->eA st.tabs (tk t)=some tb->u.size<=maxLen->t.size<=8->0<g.1.length/\g.1.length<=5/\∀s∈g.1,s<tb.1.length
theorem cx.fits {o:rO}{w:World}{p mt mg:Nat}{X:Nat->Prop}{tl:List (Lit×fF)}{gl:List (Lit×ng)}(h:cx o w p mt mg X tl gl):RQ (cw tl gl) where
 tab:=λx hx=>by
  obtain ⟨y,hy,rfl⟩:=dv.mp (show x∈tl.map _ from hx);have h1:=h.tab y hy;exact ⟨h1.c0,h1.BU,h1.fit,h1.few⟩
 gr:=λu t g tb hg ht hu h8=>by
  unfold cw at hg ht;simp only at hg ht;rw [fY] at hg ht;obtain ⟨gc,hgc,rfl⟩:=dZ.mp hg;obtain ⟨tc,htc,rfl⟩:=dZ.mp ht;obtain ⟨u',t',h1,h2,h3,tc',h4,h5⟩:=h.gr _ (kA hgc);have Rz:(8:Nat)<=maxLen:=by unfold maxLen;omega
  obtain ⟨rfl,rfl⟩:=Ki hu (by omega) (by omega) (by omega) h1;obtain rfl:=tM h.keys h4 (kA htc);exact ⟨h5.fit.1,h5.fit.2.1,h5.fit.2.2.1⟩
theorem Us {C:List cU}{R:List (List aL)}(hC:pS C)(h0:0<C.length)(hR:jh C R)(hl:R.length<=64):1<(vx C R).length/\(vx C R).length<=1000000000/\(vx C R)[(vx C R).length - 1]?=some 10:=by
 have h1:=uG (zc C) 20 C.length (λj _=>E9 hC j);have h2:=uG (E8 C R) 200 R.length (λj _=>Fa hC.1 hR j);have h3:0<(qm C C.length).length:=by
  obtain ⟨c,r,rfl⟩:∃c r,C=c::r:=by cases C with|nil=>simp at h0|cons c r=>exact ⟨c,r,rfl⟩
  unfold qm;rw [aY,List.range_succ_eq_map,jo,au];have:0<(zc (c::r) 0).length:=by simp [zc];omega
  omega
 have h4:=hC.1;have hlen:(vx C R).length=(qm C C.length).length+1+(mT C R R.length).length:=by unfold vx;simp;omega
 refine ⟨by omega,?_,?_⟩
 . unfold qm mT at hlen
   have:C.length*20<=100:=by omega
   have:R.length*200<=12800:=by omega
   omega
 . rw [<- List.getLast?_eq_getElem?]
   unfold vx
   cases R with
   |nil=>simp [mT]
   |cons r0 r=>
     have hs:=Aq (cols:=C) (R:=r0::r) (r:=r.length) (row:=(r0::r)[r.length]'(by simp)) (ah _);rw [aY,hs,<- bh];exact List.getLast?_concat
theorem Yi {st:ou}(hf:RQ st){user table:ByteArray}(hu:user.size<=maxLen)(ht:table.size<=8){v:Tn}(h:wS st user table=some v):0<v.1.length/\pS v.1/\jh v.1 v.2/\v.2.length<=64:=by
 unfold wS at h
 cases hl:eA st.tabs (tk table) with
 |none=>rw [hl] at h;cases h
 |some tb=>
   rw [hl] at h;simp only at h;obtain ⟨h1,h2,h3,h4⟩:=hf.tab _ (kA hl);have key:∀(sh:List Nat) (F:List aL->dQ),0<sh.length->sh.length<=5->(∀s∈sh,s<tb.1.length)->0<(rD sh F tb).1.length/\pS (rD sh F tb).1/\jh (rD sh F tb).1 (rD sh F tb).2/\(rD sh F tb).2.length<=64:=λsh F k0 k1 k2=>
    ⟨by unfold rD;rw [aW];exact k0,FG h2 k1 k2,FH h3 k2 F,aw (BG _ _ _) h4⟩
   split at h
   . cases h
     exact key _ _ (by rw [eS];exact h1) (by rw [eS];exact h2.1) (λs hs=>o5.mp hs)
   . obtain ⟨g,hg,rfl⟩:=dZ.mp h
     obtain ⟨k0,k1,k2⟩:=hf.gr user table g tb hg hl hu ht;exact key _ _ k0 k1 k2
theorem Qw {S:ByteArray}(h:D9 S=true):∃s r,gP S=.inl (.query (s::r))/\mN s.table/\s.pl<=300/\(∀x∈r,x.pl<=300)/\¬300<S.size:=by
 have hl:¬300<S.size:=λh'=>by
  unfold D9 gP at h;rw [aH h'] at h
  cases h
 unfold D9 at h;split at h
 . rename_i ss hr
   obtain ⟨s,r,rfl,h1,h2,h3⟩:=MR hr;exact ⟨s,r,hr,h1,h2,h3,hl⟩
 . cases h
theorem xS {S user:ByteArray}{bud:Nat}{st:ou}{s:gV}{r:List gV}(hr:gP S=.inl (.query (s::r)))(hl:¬300<S.size):qA bud st user S=(kY bud st user s.pl s.table r,st):=by
 rw [uU hl hr];rfl
theorem uX {S user:ByteArray}{bud:Nat}{st:ou}(hf:RQ st)(hq:D9 S=true)(hu:user.size<=maxLen):Qm (qA bud st user S).1:=by
 obtain ⟨s,r,hr,h1,h2,h3,hl⟩:=Qw hq;rw [xS hr hl];simp only;unfold kY
 cases hv:wS st user s.table.1 with
 |none=>exact .inl ⟨by simp,rfl,by simp,h1.2⟩
 |some v=>
   cases r with
   |cons x r'=>exact .inl ⟨by simp,rfl,by simp,h3 x (by simp)⟩
   |nil=>
     simp only;split
     . exact .inl ⟨by simp,rfl,by simp,h2⟩
     . obtain ⟨k0,k1,k2,k3⟩:=Yi hf hu h1.1 hv
       obtain ⟨t1,t2,t3⟩:=Us k1 k0 k2 k3;exact .inr ⟨rfl,t1,t2,t3,rfl⟩
theorem rI {S user:ByteArray}{bud:Nat}{st:ou}(hq:D9 S=true):(qA bud st user S).2=st:=by
 obtain ⟨s,r,hr,-,-,-,hl⟩:=Qw hq;rw [xS hr hl]
theorem Qy {st:ou}{c:xZ}(h:(km st c).1.1≠0):(km st c).2=st:=by
 cases c with
 |create t cols=>
   simp only [km,oN] at h ⊢;split
   . rfl
   . rename_i hn
     rw [aA hn] at h
     cases hc:wT cols [] with
     |inl b=>rfl
     |inr l=>
       rw [hc] at h;simp only at h ⊢;split
       . rfl
       . rename_i h2;rw [aA h2] at h;exact absurd rfl h
 |drop t=>
   simp only [km,CM] at h ⊢;split
   . rename_i hn;rw [aH hn] at h;exact absurd rfl h
   . rfl
 |load t rows=>
   simp only [km,yB] at h ⊢
   cases hl:eA st.tabs (tk t.1) with
   |none=>rfl
   |some tb=>
     rw [hl] at h;simp only at h ⊢
     cases hf:rows.findSome? (λr=>ft r tb.1) with
     |some b=>rfl
     |none=>
       rw [hf] at h;simp only at h ⊢;split
       . rfl
       . rename_i h2;rw [aA h2] at h;exact absurd rfl h
 |wu u t cs e pl=>
   simp only [km,sO] at h ⊢
   cases hl:eA st.tabs (tk t.1) with
   |none=>rfl
   |some tb=>
     rw [hl] at h;simp only at h ⊢
     cases hs:eJ tb.1 cs [] with
     |inl f=>rfl
     |inr sh=>
       rw [hs] at h;simp only at h ⊢
       cases hk:cV tb.1 e with
       |inr f=>rfl
       |inl k=>
         rw [hk] at h;simp only at h ⊢;split
         . rfl
         . rename_i h2
           rw [aA h2] at h;split
           . rfl
           . rename_i h3;rw [aA h3] at h;exact absurd rfl h
 |uw u t=>
   simp only [km,r8] at h ⊢;split
   . rename_i hn;rw [aH hn] at h;exact absurd rfl h
   . rfl
 |query ss=>rfl
theorem Qz {bud:Nat}{st:ou}{user:ByteArray}{c:xZ}(h:(qs bud st user c).1.2.1≠0):(qs bud st user c).2=st:=by
 have key:∀d:xZ,(if kh user gZ then ((([]:List UInt8),(km st d).1.1,(km st d).1.2),(km st d).2) else (([],4,0),st)).1.2.1≠0->(if kh user gZ then ((([]:List UInt8),(km st d).1.1,(km st d).1.2),(km st d).2) else (([],4,0),st)).2=st:=λd hd=>by
  split
  . rename_i ha
    rw [aH ha] at hd;exact Qy hd
  . rfl
 cases c with
 |query ss=>rfl
 |create t cols=>exact key _ h
 |drop t=>exact key _ h
 |load t rows=>exact key _ h
 |wu u t cs e pl=>exact key _ h
 |uw u t=>exact key _ h
theorem QA {bud:Nat}{st:ou}{user S:ByteArray}(h:(qA bud st user S).1.2.1≠0):(qA bud st user S).2=st:=by
 by_cases hl:300<S.size
 . unfold qA;rw [aH hl]
 . cases hr:gP S with
   |inr q=>rw [AX hl hr]
   |inl c=>rw [uU hl hr] at h ⊢;exact Qz h
theorem afh {bud:Nat}{st:ou}{user S:ByteArray}{c:xZ}(hr:gP S=.inl c)(hq:D9 S=false)(ha:kh user gZ=false):(qA bud st user S).1=([],4,0):=by
 have hl:¬300<S.size:=λh'=>by
  unfold gP at hr;rw [aH h'] at hr
  cases hr
 rw [uU hl hr];unfold D9 at hq;rw [hr] at hq
 cases c with
 |query ss=>cases hq
 |create t cols=>simp [qs,ha]
 |drop t=>simp [qs,ha]
 |load t rows=>simp [qs,ha]
 |wu u t cs e pl=>simp [qs,ha]
 |uw u t=>simp [qs,ha]
theorem QB {b b':Nat}{st:ou}{user S:ByteArray}:(qA b st user S).2=(qA b' st user S).2:=by
 by_cases hl:300<S.size
 . unfold qA;rw [aH hl,aH hl]
 . cases hr:gP S with
   |inr q=>rw [AX hl hr,AX hl hr]
   |inl c=>
     rw [uU hl hr,uU hl hr]
     cases c<;>rfl
theorem NJ {b b':Nat}(hb:b<=b'){st:ou}{user S:ByteArray}(hq:D9 S=true):((qA b st user S).1.2.1≠10->(qA b st user S).1=(qA b' st user S).1)/\((qA b st user S).1.2.1=10->(qA b' st user S).1.2.1≠10\/(qA b st user S).1.2.2<=(qA b' st user S).1.2.2):=by
 obtain ⟨s,r,hr,-,-,-,hl⟩:=Qw hq;rw [xS hr hl,xS hr hl];simp only;unfold kY
 cases wS st user s.table.1 with
 |none=>simp
 |some v=>
   cases r with
   |cons x r'=>simp
   |nil=>
     simp only;by_cases h1:b<v.2.length
     . rw [aH h1]
       by_cases h2:b'<v.2.length
       . rw [aH h2];simp
       . rw [aA h2];simp
     . rw [aA h1,aA (by omega)];simp
def aT:ByteArray:=⟨#[99,114,101,97,116,101,32,116,32,40,97,32,105,110,116,41]⟩
def bT:ByteArray:=⟨#[108,111,97,100,32,116,32,40,49,41,40,50,41]⟩
def cT:ByteArray:=⟨#[102,114,111,109,32,116]⟩
def xe:List UInt8:=[97,58,105,110,116,10,49,10,50,10]
def st0:ou:=⟨[],[]⟩
def st1:ou:=⟨[(tk ⟨#[116]⟩,([(⟨#[97]⟩,0)],[]))],[]⟩
def st2:ou:=⟨[(tk ⟨#[116]⟩,([(⟨#[97]⟩,0)],[[⟨false,1,⟨#[]⟩⟩],[⟨false,2,⟨#[]⟩⟩]]))],[]⟩
theorem afi:gP aT=.inl (.create (⟨#[116]⟩,7) [((⟨#[97]⟩,10),0)]):=by kernel_rfl
theorem afj:∃p1 p2 q1 q2,gP bT=.inl (.load (⟨#[116]⟩,5) [⟨p1,[⟨q1,0,false,1,⟨#[]⟩⟩]⟩,⟨p2,[⟨q2,0,false,2,⟨#[]⟩⟩]⟩]):=⟨7,10,8,11,by kernel_rfl⟩
theorem afk:gP cT=.inl (.query [{ bare kc 0 with table:=(⟨#[116]⟩,5) }]):=by kernel_rfl
theorem ao2:qA 1000 st0 gZ aT=(([],0,0),st1):=by
 rw [uU (by decide) afi];kernel_rfl
theorem ao3:qA 1000 st1 gZ bT=(([],0,0),st2):=by
 obtain ⟨p1,p2,q1,q2,h⟩:=afj;rw [uU (by decide) h];rfl
theorem ao4:(qA 1000 st2 gZ cT).1=(xe,0,0):=by
 rw [uU (by decide) afk];kernel_rfl
end
end Go.Proofs.YteniahoehoncjaaGreatDoor
