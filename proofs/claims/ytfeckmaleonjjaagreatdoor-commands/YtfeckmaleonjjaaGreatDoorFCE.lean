import Derived.Test.YtfeckmaleonjjaaGreatDoorFCC
set_option maxHeartbeats 0
set_option maxRecDepth 100000
namespace Go.Proofs.YtfeckmaleonjjaaGreatDoor
open Go.Value renaming ownBlock→Ω
open List renaming length→Λ
open Go.RowKit
open _root_.Go.Proofs.Tryz
open Option renaming some→σ
open Go renaming World→ω,Value→υ
open Go.Value renaming slice→ψ
variable{p:Nat}
section
def nY(cy more:Δ bU)(st:dz)(c:Δ bU):Prop:=
 if ct st.cU fQ then c=cy/\∀e l,st.fG=e::l->rE cy e.1
 else if ct st.cU rq then Λ c=Λ st.fG/\(∀e∈st.fG,rE cy e.1)/\Small c
 else if ct st.cU mT then c=cy++more/\There cy st.left.1/\There more st.right.1
 else if ct st.cU kh then Λ c=Λ st.bJ+Λ st.eY/\(∀n∈st.bJ,There cy n.1)/\(∀m∈st.eY,m.fq=true\/There cy m.ov.1)/\Small c
 else c=cy/\(ct st.cU kE=true->∀n∈st.bJ,There cy n.1)
variable {b o:Nat} {ns:Δ cz} {cv uv nv ev mv dv:υ} {cy more:Δ bU} {st:dz}
theorem XH{w:ω}(d:Tw w b o ns cv cy)(T:eK w uv more)(uq:Λ cy<=10000)(Gt:Λ more<=10000)(y:Kz w ns st nv ev mv dv)(G:DB st)(ai:Small cy):Calls prog 86 #[.pointer (σ (Ad b o)),cv,uv,.agg (oB st nv ev mv dv)] w λr w'=>V2 w w' r cv (nY cy more st):=by
 have⟨W,R⟩:=nm (w.alloc (.cells (oB st nv ev mv dv) 95));have i:=(zF.start w).new (oB st nv ev mv dv) 95;rw[<- R]at i;have s:=ak R;have p:=(d.aU i.lo (ae _));have A:=(y.aU i.lo (ae _));have HM:=(T.aU i.lo (ae _));obtain⟨ca,cc,rfl⟩:=d.hc.slice;obtain⟨ma,mc,rfl⟩:=T.slice;obtain⟨na,nc,rfl⟩:=aS.slice y.bJ;have⟨ks,mL,j6,X⟩:=y.fG;have Y:=ak (And.intro mL X);obtain⟨ea,ec,rfl⟩:=aS.slice j6;obtain⟨ya,yc,rfl⟩:=aS.slice y.eY;obtain⟨da,dc,rfl⟩:=aS.slice y.down;have U:=ak (λwr (hb:Below W.heap.size W wr)=>(i.call hb).box (i:=0) rfl);clear d T y R mL X;have t1:=bX st.cU [119,104,101,114,101];have t2:=bX st.cU [109,97,112];have t3:=bX st.cU [106,111,105,110];have t4:=bX st.cU [103,114,111,117,112];have t5:=bX st.cU [111,114,100,101,114];have⟨C,x⟩:=nm (nY cy more st);rw[<- x];cases h1:ct st.cU fQ;case' true=>
  rw[show bs [119,104,101,114,101]=fQ from rfl,h1]at t1;obtain⟨e,L,N⟩:∃e L,st.fG=e::L:=by cases k:st.fG with|nil=>exact absurd k (G.wh h1)|cons e L=>exact⟨e,L,rfl⟩
  obtain⟨z,g⟩:∃z,ks[0]?=σ z:=⟨_,af (by rw[Y.J.1,N];simp)⟩;have M:=Y.J.2 0 z e g (by rw[N];rfl);have⟨V,k,av⟩:=M.2.2;have ac:=(Pt e.1 M.1 M.2.1 k p);obtain⟨D,Q,cp,F,-,tF,al⟩:=aS.at j6 (bY (aB _) (ah.1 g).1);cases F;have x0:w.cell? (Ad D Q)=σ (.int .i64 z):=al 0 _ (by rw[bp,g];rfl);have m:Hid (∀a,a=cy/\rE cy e.1->C a):=ak (λa j=>by rw[x];unfold nY;rw[aN h1];exact⟨j.1,λe' l' h'=>by rw[N]at h';cases h';exact j.2⟩);have oY:(0:Int)<Λ ks:=by have:=(ah.1 g).1;omega
  unfold oB at s ⊢;go_in;go_wp21;rw[<- s.J];refine ac.mono ?_;rintro r H ⟨rfl,t⟩;have⟨q,n⟩:=nm (oV cy e.1 V.first);rw[<- n];have HQ:=ak n;have f:=ak t;clear t n;unfold abl;go_wp2;go_ret3;refine⟨_,q.1,q.2,rfl,⟨_,_,_,rfl⟩,λd=>⟨cy,(p.aU f.J (ae _)).hc,m.J _ ⟨rfl,?_⟩,.inl rfl⟩,(i.call f.J).lo⟩;have n:=HQ.J;unfold oV at n;cases g:dp cy e.1 with|inl z=>exact⟨z,g⟩|inr q'=>rw[g]at n;simp only at n;exact absurd (n ▸ d) (kG g)
 (case' false=>rw[show bs [119,104,101,114,101]=fQ from rfl,h1]at t1;cases h2:ct st.cU rq);(case' false.true=>rw[show bs [109,97,112]=rq from rfl,h2]at t2;have I:=ak (Tz p A (G.mp h2) G.sz.1);have m:Hid (∀a,(Λ a=Λ st.fG/\(∀e∈st.fG,rE cy e.1)/\Small a)->C a):=ak (λa j=>by rw[x];unfold nY;rw[aH (by rw[h1];simp),aN h2];exact j));(case' false.false=>rw[show bs [109,97,112]=rq from rfl,h2]at t2;cases h3:ct st.cU mT);(case' false.false.true=>rw[show bs [106,111,105,110]=mT from rfl,h3]at t3;have I:=ak (Px p.hc HM uq Gt A);have m:Hid (∀a,(a=cy++more/\(∃l,wP cy st.left.1=σ l)/\∃am,wP more st.right.1=σ am)->C a):=ak (λa j=>by rw[x];unfold nY;rw[aH (by rw[h1];simp),aH (by rw[h2];simp),aN h3];exact j));(case' false.false.false=>rw[show bs [106,111,105,110]=mT from rfl,h3]at t3;cases h4:ct st.cU kh);(case' false.false.false.true=>rw[show bs [103,114,111,117,112]=kh from rfl,h4]at t4;have I:=ak (Py p.hc uq A G.len ai G.sz.2);have m:Hid (∀a,(Λ a=Λ st.bJ+Λ st.eY/\(∀c∈st.bJ,There cy c.1)/\(∀ab∈st.eY,ab.fq=true\/There cy ab.ov.1)/\Small a)->C a):=ak (λa j=>by rw[x];unfold nY;rw[aH (by rw[h1];simp),aH (by rw[h2];simp),aH (by rw[h3];simp),aN h4];exact j));case false.false.false.false=>
  rw[show bs [103,114,111,117,112]=kh from rfl,h4]at t4;have m:Hid ((ct st.cU kE=true->∀c∈st.bJ,There cy c.1)->C cy):=ak (λj=>by rw[x];unfold nY;rw[aH (by rw[h1];simp),aH (by rw[h2];simp),aH (by rw[h3];simp),aH (by rw[h4];simp)];exact⟨rfl,j⟩);have Z:=A.bJ;have Dk:=A.len.1;unfold oB at s U ⊢;cases E:ct st.cU kE;{rw[show bs [111,114,100,101,114]=kE from rfl,E]at t5;go_in;go_wp2;rw[<- s.J];go_ret3;exact⟨_,0,0,rfl,⟨_,_,_,rfl⟩,λ_=>⟨cy,p.hc,m.J (λd=>by rw[E]at d;cases d),.inl rfl⟩,i.lo⟩}
  rw[show bs [111,114,100,101,114]=kE from rfl,E]at t5;go_in;go_wp2;rw[<- s.J];go_loopw[13] (λa wr=>∃l:Nat,l<=Λ st.bJ/\a=.int .i64 l/\Hid (∀c∈st.bJ.take l,There cy c.1)/\Hid (Below W.heap.size W wr)) (λa _=>Λ st.bJ - (intOf a).toNat);case atStart=>exact⟨0,aB _,rfl,ak (by simp),ak (aj _ _)⟩
  case round=>
   obtain⟨l,hi,rfl,aa,f⟩:=hrel;obtain⟨g,oY,-⟩:=U.J wr f.J;have q4:wr.cell? (Ad w.heap.size 4)=σ (ψ na (Λ st.bJ) nc):=bB g 4;by_cases cK:l<Λ st.bJ
   .have gY:=aX.2 cK;have⟨c,O⟩:=l9 cK;have⟨D,Q,cp,F,c0,c1⟩:=(show rB wr _ _ from aS.aU Z f.J (ae _)).get O;cases F;have HA:=(pQ cy _ c.1 wr (p.aU f.J (ae _)).hc (by omega));go_wp21;refine HA.mono ?_;rintro r H ⟨rfl,t⟩;have K:=ak (f.J.trans (t.mono f.J.size));obtain⟨g,KB,-⟩:=U.J H K.J;have r4:H.cell? (Ad w.heap.size 4)=σ (ψ (σ (Ad D Q)) (Λ st.bJ) nc):=bB g 4;have⟨g',d',ar,F,ao,ap⟩:=(show rB H _ _ from aS.aU Z K.J (ae _)).get O;cases F;cases gW:wP cy c.1 with
    |none=>rw[show mI cy c.1=-1 by unfold mI;rw[gW]];go_wp2;go_quiet(fail);go_wp2;go_ret3;exact⟨_,5,c.2,rfl,⟨_,_,_,rfl⟩,λd=>(by cases d),below_drewN (i.call K.J).lo _⟩
    |some P=>
     rw[show mI cy c.1=(P:Int)by unfold mI;rw[gW]];have ad:Hid (∀c∈st.bJ.take (l+1),There cy c.1):=ak (λV k=>by
      rw[bS,O]at k;rcases bA.1 k with k|k
      . exact aa.J V k
      . cases bj.1 k;exact⟨P,gW⟩)
     go_wp2;exact⟨⟨l+1,by omega,by go_num,ad,K⟩,by simp[intOf];omega⟩
   have Sr:Hid (∀c∈st.bJ,There cy c.1):=ak (λc hn=>aa.J c (by rw[aQ (by omega)];exact hn));go_wp2;go_ret3;exact⟨_,0,0,rfl,⟨_,_,_,rfl⟩,λ_=>⟨cy,(p.aU f.J (ae _)).hc,m.J (λ_=>Sr.J),.inl rfl⟩,(i.call f.J).lo⟩
 all_goals unfold oB at s I ⊢;go_in;go_wp21;rw[<- s.J];refine I.J.mono ?_;rintro r H ⟨v,e,an,rfl,⟨P,c,a,rfl⟩,oI,t⟩;have f:=ak t;go_wp2;go_ret3;refine⟨_,e,an,rfl,⟨_,_,_,rfl⟩,λd=>?_,(i.call f.J).lo⟩;have⟨ag,E,h6,h7⟩:=oI d;exact⟨ag,E,m.J _ h6,h7.imp id λd D hg=>ay i.lo.size (d D hg)⟩
end
def nE(n:Nat)(ry:Δ (Δ aF)):Prop:=∀r∈ry,Λ r=n/\∀c∈r,c.s.size<=1000000000
structure uw (w:ω)(cv rv:υ)(cy:Δ bU)(ry:Δ (Δ aF)):Prop where
 hc:eK w cv cy
 hr:ft w rv ry
 ok:nE (Λ cy) ry
 len:Λ cy<=10000/\(Λ ry)<=10000
theorem uw.aU{w w':ω}{cv e:υ}{cy:Δ bU}{ry:Δ (Δ aF)}{B:Nat}(a:uw w cv e cy ry)(d:Below B w w')(c:w.heap.size<=B):uw w' cv e cy ry:=⟨a.hc.aU d c,a.hr.aU d c,a.ok,a.len⟩
theorem ft.got{w:ω}{v:υ}{b:Δ (Δ aF)}(j:ft w v b){a:Δ aF}(i:b[p]?=σ a):∃c o f d e,v=ψ (σ (Ad c o)) (Λ b) f/\w.cell? (Ad c (o+p))=σ (ψ d (Λ a) e)/\dW w (ψ d (Λ a) e) a/\c<w.heap.size:=by have⟨x,k,l⟩:=j;have⟨u,m,g⟩:=l p a i;obtain⟨c,o,f,s,-,n,t⟩:=k.at (bY (aB _) (ah.mp i).1);obtain⟨d,e,rfl⟩:=aS.slice g;exact⟨c,o,f,d,e,s,t p _ m,g,n⟩
def vC(B:Nat)(w:ω)(v:υ)(ry:Δ (Δ aF)):Prop:=∃us,Λ us=Λ ry/\w.ownsRow B 156 1 v (Λ ry) us/\∀(i:Nat) (u:υ) (r:Δ aF),us[i]?=σ u->ry[i]?=σ r->dW w u r/\(0<Λ r->∀a n c,u=ψ (σ a) n c->Ω v≠σ a.block)
theorem vC.lo{B:Nat}{w:ω}{v:υ}{ry:Δ (Δ aF)}(c:vC B w v ry)(e:p<=B):∀a,Ω v=σ a->(none:Option Nat)=σ a\/p<=a:=λa d=>by
 obtain⟨f,-,c,-⟩:=c;exact .inr (ay e (c.lt a d).1)
section
variable {B:Nat} {w w' W:ω} {v v' u:υ} {ry:Δ (Δ aF)} {r:Δ aF}
theorem vC.nil(B:Nat)(w:ω):vC B w (ψ none 0 0) []:=⟨[],rfl,⟨rfl,.inl ⟨rfl,rfl⟩⟩,λc u r a=>by simp at a⟩
theorem vC.aU(f:vC B w v ry)(d:Below w.heap.size w w'):vC B w' v ry:=by have⟨j,g,i,c⟩:=f;exact⟨j,g,cO i d,λe u r a b=>⟨aS.aU (c e u r a b).1 d (ae _),(c e u r a b).2⟩⟩
theorem vC.slice(e:vC B w v ry):∃a c,v=ψ a (Λ ry) c:=by obtain⟨i,g,f,-⟩:=e;obtain⟨a,c,d,-⟩:=cR f;exact⟨a,c,d⟩
theorem vC.batch(d:vC B w v ry):ft w v ry:=by
 have⟨k,e,f,g⟩:=d;exact⟨k,aS.dE f,λj c a=>by
  have i:=(ah.1 a).1;exact⟨_,af (by rw[e];exact i),(g j _ c (af _) a).1⟩⟩
theorem vC.push(_h:vC B w v ry){s:Δ υ}{x:Nat}{ob:Obj}(P:Below B W w)(O:B<=w.heap.size)(i:Λ s=Λ ry/\w.ownsRow B 156 1 v (Λ ry) s/\∀(k:Nat) (u:υ) (r:Δ aF),s[k]?=σ u->ry[k]?=σ r->dW w u r/\(0<Λ r->∀a g e,u=ψ (σ a) g e->Ω v≠σ a.block))
 (T:dW w u r) (Q:0<Λ r->∀a g e,u=ψ (σ a) g e->Ω v≠σ a.block) (M:w'.ownsRow B 156 1 (ψ (σ (Ad p 0)) (Λ ry+1) x) (Λ ry+1) (s++[u])) (A:(w.alloc ob).grownBy w' (Ω v)) (t:Ω v=σ p\/w.heap.size+1<=p):vC B w' (ψ (σ (Ad p 0)) (Λ ry+1) x) (ry++[r])/\Below B W w':=by
 have R:Below B W w':=(P.alloc O _).grown A (by simp;omega) (λU D=>(i.2.1.lt U D).1);have G:∀(f:υ) (d:Δ aF),dW w f d->(0<Λ d->∀a g e,f=ψ (σ a) g e->Ω v≠σ a.block)->dW w' f d/\(0<Λ d->∀a g e,f=ψ (σ a) g e->(Value.slice (σ (Ad p 0)) (Λ ry+1) x).ownBlock≠σ a.block):=λf d z E=>by
  by_cases c:0<Λ d
  . obtain⟨m,V,I,l,-,H,-⟩:=aS.at z c
    have D:w'.heap[m]?=w.heap[m]?:=(A.block m (by simp;omega) (λy=>E c _ _ _ l y.symm)).trans (((aj w.heap.size w).alloc (ae _) ob).block m H);refine⟨aS.stays z (ay (by simp) A.size) (λa e n=>?_),λ_ a g e n=>?_⟩
    . rw[l]at n;cases n;exact D
    . rw[l]at n
      cases n
      intro y;have:p=m:=bh y;subst this;rcases t with t|t
      . exact E c _ _ _ l t
      . omega
  . obtain rfl:d=[]:=fm.1 (by omega)
    have⟨N,C⟩:=z;refine⟨⟨N,.inl ⟨rfl,?_⟩⟩,λL=>absurd L c⟩;rcases C with⟨-,C⟩|⟨m,V,I,l,-⟩
    . exact C
    . exact⟨_,_,l⟩
 refine⟨⟨s++[u],by simp[i.1],by rw[au];exact M,λk f d j c=>?_⟩,R⟩;by_cases F:k<Λ ry;{rw[bF (by rw[i.1];exact F)]at j;rw[bF F]at c;exact G f d (i.2.2 k f d j c).1 (i.2.2 k f d j c).2};rw[br (by rw[i.1];omega)]at j;rw[br (by omega)]at c;rw[i.1]at j;have K:k - Λ ry=0:=(by have:=(ah.1 c).1;simp at this;omega);rw[K]at j c;cases j;cases c;exact G u r T Q
end
theorem Tryz.zW:(prog.info? 156).map (λa=>(a.zero,a.size,a.bytes))=σ (σ (ψ none 0 0),1,24):=by kernel_rfl
theorem Tryz.CD:(prog.info? 129).map (λa=>(a.zero,a.size,a.bytes))=σ (σ (.agg #[.bool false,.int .i64 0,.string ⟨#[]⟩]),3,32):=by kernel_rfl
