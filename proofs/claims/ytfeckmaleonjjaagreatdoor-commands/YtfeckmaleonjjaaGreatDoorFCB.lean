import Derived.Test.YtfeckmaleonjjaaGreatDoorFCA
set_option maxHeartbeats 0
set_option maxRecDepth 100000
namespace Go.Proofs.YtfeckmaleonjjaaGreatDoor
open Go.World renaming cell?→Ξ
open List renaming length→Λ
open Go.RowKit
open _root_.Go.Proofs.Tryz
open Option renaming some→σ
open Go.IntKind renaming i64→κ
open Go.Ending renaming returned→τ
open Go.Obj renaming cells→ξ
open Go renaming World→ω,Value→υ
open Go.RowKit renaming Below→δ
open Go.Value renaming int→ι,string→θ,slice→ψ,pointer→π
variable{p:Nat}{m:υ}
def M9:Γ:=bs [110,117,109]
def E0:Γ:=bs [115,116,114]
def wU:Γ:=bs [98,111,111,108]
def Cw:Γ:=bs [99,111,108]
def Cx:Γ:=bs [110,101,103]
def Hy:Γ:=bs [110,111,116]
def yf:Γ:=bs [105,115,110,117,108,108]
def tD:Γ:=bs [110,111,116,110,117,108,108]
def OD(ns:Δ cz):Nat->Ex->Prop
 |k,.num n=>∃v,ns[k]?=σ v/\v.op=M9/\v.n=n
 |k,.str s=>∃v,ns[k]?=σ v/\v.op=E0/\v.s=s
 |k,.bool b=>∃v,ns[k]?=σ v/\v.op=wU/\v.n=(if b then 1 else 0)
 |k,.col s a=>∃v,ns[k]?=σ v/\v.op=Cw/\v.s=s/\v.pl=a
 |k,.neg a x=>∃v,ns[k]?=σ v/\v.op=Cx/\v.pl=a/\OD ns v.a x
 |k,.not a x=>∃v,ns[k]?=σ v/\v.op=Hy/\v.pl=a/\OD ns v.a x
 |k,.lA no a x=>∃v,ns[k]?=σ v/\v.op=(if no then tD else yf)/\v.pl=a/\OD ns v.a x
 |k,.two op a x y=>∃v,ns[k]?=σ v/\v.op=op/\v.pl=a/\OD ns v.a x/\OD ns v.b y
 |_,.junk=>False
def nD(u:υ):Prop:=∃a q k,u=ψ a q k
theorem pQ(cy:Δ bU)(v:υ)(j:Γ)(w:ω)(s:eK w v cy)(M:Λ cy<=100000):Calls prog 67 #[v,θ j] w λA w'=>A=τ (ι κ (mI cy j))/\δ w.heap.size w w':=by
 obtain⟨N,G,rfl⟩:=s.slice;go_in;go_wp2;go_loopw[5] (λc wr=>∃e:Nat,e<=Λ cy/\c=ι κ e/\(∃g,wr=w.drewN g)/\Hid (∀(d:Nat) (c:bU),d<e->cy[d]?=σ c->ct c.1 j=false)) (λc _=>Λ cy - (intOf c).toNat);case atStart=>exact⟨0,aB _,rfl,⟨0,rfl⟩,ak (λd c l _=>by omega)⟩
 case round=>
  obtain⟨e,K,rfl,⟨g,rfl⟩,n⟩:=hrel;by_cases r:e<Λ cy
  .have I:=aX.2 r;have⟨c,u⟩:=l9 r;have⟨H,o,F,i,D,E⟩:=s.get u;cases i;have p:=ak u;have C:=iZ c.1 j;cases i:ct c.1 j;(all_goals rw[i]at C;go_wp2)
   .exact⟨⟨e+1,by omega,by go_num,⟨g,rfl⟩,ak (λd z l m=>by
     by_cases y:d=e
     . subst y;rw[p.J]at m;cases m;exact i
     . exact n.J d z (by omega) m)⟩,by simp[intOf];omega⟩
   go_ret;exact⟨by unfold mI;rw[VP p.J i n.J];rfl,below_drewN (aj _ _) g⟩
  go_wp2;go_ret;exact⟨by unfold mI;rw[VO (λd c l=>n.J d c (by have:=(ah.mp l).1;omega) l)];rfl,below_drewN (aj _ _) g⟩
def rB(w:ω)(v:υ)(ns:Δ Nm):Prop:=aS w 2 v (Λ ns) (ns.flatMap λn=>[θ n.1,ι κ n.2])
theorem rB.get{w:ω}{v:υ}{ns:Δ Nm}(l:rB w v ns){g:Nm}(e:ns[p]?=σ g):∃c o d,v=ψ (σ (Ad c o)) (Λ ns) d/\Ξ w (Ad c (o+p*2))=σ (θ g.1)/\Ξ w (Ad c (o+p*2+1))=σ (ι κ g.2):=by obtain⟨c,o,d,j,-,-,i⟩:=aS.at l (bY (aB _) (ah.mp e).1);exact⟨c,o,d,j,i (p*2) _ (cV _ 2 (λ_=>rfl) ns e (j:=0) (by decide)),i (p*2+1) _ (cV _ 2 (λ_=>rfl) ns e (j:=1) (by decide))⟩
theorem A6(ns:Δ Nm)(v:υ)(d:Nat)(i:Nm)(w:ω)(p:rB w v ns)(r:ns[d]?=σ i)(M:Λ ns<=100000):Calls prog 66 #[v,ι κ d] w λy w'=>y=τ (.bool ((ns.take d).any λj=>ct j.1 i.1))/\δ w.heap.size w w':=by
 have u:d<Λ ns:=(ah.mp r).1;obtain⟨G,o,F,rfl,N,O⟩:=p.get r;have C:=aX.2 u;go_in;go_wp2;go_loopw[5] (λc wr=>∃k:Nat,k<=d/\c=ι κ k/\(∃e,wr=w.drewN e)/\Hid ((ns.take k).any (λj=>ct j.1 i.1)=false)) (λc _=>d - (intOf c).toNat);case atStart=>exact⟨0,aB _,rfl,⟨0,rfl⟩,ak (by simp)⟩
 case round=>obtain⟨k,K,rfl,⟨e,rfl⟩,l⟩:=hrel;by_cases n:k<d;{have I:=aX.2 n;have A:(k:Int)<Λ ns:=(by omega);obtain⟨c,s⟩:∃c,ns[k]?=σ c:=⟨_,af (by omega)⟩;have⟨H,P,Q,g,D,E⟩:=p.get s;cases g;have m:=ak s;have z:=iZ c.1 i.1;cases g:ct c.1 i.1;(all_goals rw[g]at z;go_wp2;go_quiet(fail);go_wp2);{exact⟨⟨k+1,by omega,by go_num,⟨e+nq,rfl⟩,ak (by rw[bS,m.J,zu,l.J];simp[g])⟩,by simp[intOf];omega⟩};go_ret;exact⟨by rw[kM.2 ⟨c,aq (by rw[dL,aN n];exact m.J),g⟩];rfl,below_drewN (below_drewN (aj _ _) e) nq⟩};obtain rfl:k=d:=(by omega);go_wp2;go_ret;exact⟨by rw[l.J];rfl,below_drewN (aj _ _) e⟩
def Hz(op:Γ):Bool:=pP op||ct op Cx
theorem XA(c:Γ)(w:ω):Calls prog 135 #[θ c] w λd w'=>d=τ (.bool (Hz c))/\δ w.heap.size w w':=by unfold Hz pP VJ pN aaK aaL ai1 Cx;simp only[<- bX];go_in;go_wp2;all_goals go_ret;exact⟨by simp_all,by repeat(first|exact aj _ _|refine aP ?_)⟩
theorem FQ(c:Γ)(w:ω):Calls prog 136 #[θ c] w λd w'=>d=τ (.bool (jm c))/\δ w.heap.size w w':=by unfold jm zL kNe kLt kLe kGt kGe;simp only[<- bX];go_in;go_wp2;all_goals go_ret;exact⟨by simp_all,by repeat(first|exact aj _ _|refine aP ?_)⟩
theorem ahE(w:ω)(x c:Obj):((w.alloc x).alloc c).heap[w.heap.size]?=σ x/\((w.alloc x).alloc c).heap[w.heap.size+1]?=σ c/\δ w.heap.size w ((w.alloc x).alloc c)/\((w.alloc x).alloc c).heap.size=w.heap.size+1+1:=by have e:=((aj (w.alloc x).heap.size (w.alloc x)).alloc (ae _) c).block w.heap.size (by simp);have d:=az (w.alloc x) c;rw[show(w.alloc x).heap.size=w.heap.size+1 by simp]at d;exact⟨e.trans (az w x),d,((aj _ _).alloc (ae _) _).alloc (by simp) _,by simp⟩
theorem Kw(w:ω)(x c d:Obj):(((w.alloc x).alloc c).alloc d).heap[w.heap.size]?=σ x/\(((w.alloc x).alloc c).alloc d).heap[w.heap.size+1]?=σ c/\(((w.alloc x).alloc c).alloc d).heap[w.heap.size+1+1]?=σ d/\δ w.heap.size w (((w.alloc x).alloc c).alloc d):=by have⟨g,i,j,m⟩:=ahE w x c;have e:=(aj ((w.alloc x).alloc c).heap.size ((w.alloc x).alloc c)).alloc (ae _) d;have l:=az ((w.alloc x).alloc c) d;rw[m]at l;exact⟨(e.block _ (aA g)).trans g,(e.block _ (aA i)).trans i,l,j.trans (e.mono j.size)⟩
theorem ni{w:ω}{a b:υ}{t:TypeId}(c:w.heap[p]?=σ (ξ #[a,b,m] t (0,0))):(Ξ w (Ad p 0)=σ a/\Ξ w (Ad p 1)=σ b/\Ξ w (Ad p 2)=σ m)/\w.frozen? (Ad p 0)=false/\w.frozen? (Ad p 1)=false/\w.frozen? (Ad p 2)=false/\p<w.heap.size:=⟨⟨bB c 0,bB c 1,bB c 2⟩,jd c 0,jd c 1,jd c 2,aA c⟩
theorem Cy{B:Nat}{w c:ω}{a b:υ}{t:TypeId}(j:δ B w c)(d:B<=p)(i:c.heap[p]?=σ (ξ #[a,b,m] t (0,0)))(x e g:υ):((((c.setCell (Ad p 0) x).setCell (Ad p 1) e).setCell (Ad p 2) g).heap[p]?=σ (ξ #[x,e,g] t (0,0)))/\δ B w (((c.setCell (Ad p 0) x).setCell (Ad p 1) e).setCell (Ad p 2) g):=
 ⟨bq _ _ 2 _ _ _ (bq _ _ 1 _ _ _ (bq _ _ 0 _ _ _ i)),((j.setCell d _).setCell d _).setCell d _⟩
theorem Pm{cy:Δ bU}{e:Γ}{c:bU}(g:cy.find? (λc=>ct c.1 e)=σ c):∃d,wP cy e=σ d:=by cases hi:wP cy e with|some d=>exact⟨d,rfl⟩|none=>unfold wP at hi;rw[eA]at hi;have:=hi c (kq g);rw[zw g]at this;cases this
theorem H6(b:Bool)(w:ω):Calls prog 126 #[.bool b] w λc w'=>c=τ (eB (iy b))/\δ w.heap.size w w':=by cases b;all_goals go_in;go_wp2;refine aE (by simp[results,results126,go_sem];rfl) rfl ⟨rfl,?_⟩;repeat(first|exact aj _ _|refine gw ?_ (by simp) _|refine fx ?_ (by simp) _)
theorem Pn(w:ω):Calls prog 131 #[] w λc w'=>c=τ (eB fj)/\δ w.heap.size w w':=by go_in;go_wp2;refine aE (by simp[results,results131,go_sem];rfl) rfl ⟨rfl,?_⟩;repeat(first|exact aj _ _|refine gw ?_ (by simp) _|refine fx ?_ (by simp) _)
theorem Po{x c:Δ UInt8}(e:qb x c=qb (x.drop p) (c.drop p))(d:Λ x<=p\/Λ c<=p)(j:p<=Λ x/\p<=Λ c):qb x c=if Λ x=Λ c then 0 else if Λ x<Λ c then -1 else 1:=by
 rw[e];rcases d with d|d
 {rw[iK d];by_cases i:Λ c<=p;{rw[iK i,aN (by omega)];rfl};rw[cL (by omega),aH (by omega),aN (by omega)];rfl};rw[iK d];by_cases g:Λ x<=p;{rw[iK g,aN (by omega)];rfl};rw[cL (by omega),aH (by omega),aH (by omega)];rfl
theorem XB(x d:Γ)(w:ω)(N:x.size<=1000000000)(_hy:d.size<=1000000000):Calls prog 169 #[θ x,θ d] w λG w'=>G=τ (ι κ (qb x.data.toList d.data.toList))/\δ w.heap.size w w':=by
 have E:Λ x.data.toList=x.size:=dF;have F:Λ d.data.toList=d.size:=dF;have g:=ak E;have i:=ak F;go_in;go_wp2;go_loopw[5] (λp wr=>∃c:Nat,c<=x.size/\c<=d.size/\p=ι κ c/\Hid (qb x.data.toList d.data.toList=qb (x.data.toList.drop c) (d.data.toList.drop c))/\Hid (δ w.heap.size w wr)) (λp _=>x.size - (intOf p).toNat);case atStart=>exact⟨0,aB _,aB _,rfl,ak rfl,ak (aj _ _)⟩
 case round=>
  obtain⟨c,K,M,rfl,m,l⟩:=hrel;by_cases s:c<x.size
  .have z:=aX.2 s;by_cases u:c<d.size
   .have C:=aX.2 u
    have r:Hid (qb x.data.toList d.data.toList=if x[c]=d[c]then qb (x.data.toList.drop (c+1)) (d.data.toList.drop (c+1))else if x[c]<d[c]then -1 else 1):=ak (by
     rw[m.J,cL (l:=x.data.toList) (by rw[g.J];exact s),cL (l:=d.data.toList) (by rw[i.J];exact u)];rfl)
    by_cases j:x[c]=d[c];{have H:((x[c].toNat:Int) != (d[c].toNat:Int))=false:=(by rw[nC,j]);have n:Hid (qb x.data.toList d.data.toList=qb (x.data.toList.drop (c+1)) (d.data.toList.drop (c+1))):=ak (by rw[r.J,aN j]);go_wp2;go_quiet(fail);go_wp2;exact⟨⟨c+1,by omega,by omega,by go_num,n,ak (below_drewN l.J _)⟩,by simp[intOf];omega⟩}
    have H:((x[c].toNat:Int) != (d[c].toNat:Int))=true:=(by rw[dZ];exactλI=>j (ju.1 (by omega)))
    have n:Hid (qb x.data.toList d.data.toList=if(x[c].toNat:Int)<(d[c].toNat:Int)then -1 else 1):=ak (by
     rw[r.J,aH j];simp only[UInt8.lt_iff_toNat_lt,Int.ofNat_lt])
    by_cases D:(x[c].toNat:Int)<(d[c].toNat:Int);all_goals go_wp2;go_quiet(fail);go_wp2;go_quiet(fail);go_wp2;go_ret;exact⟨by rw[n.J];first|(rw[aN D];rfl)|(rw[aH (by omega)];rfl),below_drewN (below_drewN l.J _) _⟩
   have C:¬(c:Int)<(d.size:Int):=(by omega);have e:=ak (Po m.J (.inr (by rw[i.J];omega)) ⟨by rw[g.J];omega,by rw[i.J];omega⟩);rw[g.J,i.J]at e;have y:((x.size:Int)==(d.size:Int))=false:=(by rw[aY];omega);have A:¬(x.size:Int)<(d.size:Int):=(by omega);go_wp2;go_ret;exact⟨by rw[e.J,aH (by omega),aH (by omega)];rfl,l.J⟩
  have z:¬(c:Int)<(x.size:Int):=(by omega);have e:=ak (Po m.J (.inl (by rw[g.J];omega)) ⟨by rw[g.J];omega,by rw[i.J];omega⟩);rw[g.J,i.J]at e;by_cases j:x.size=d.size;{have y:((x.size:Int)==(d.size:Int))=true:=(by rw[dR];omega);go_wp2;go_ret;exact⟨by rw[e.J,aN j];rfl,l.J⟩};have y:((x.size:Int)==(d.size:Int))=false:=(by rw[aY];omega);have A:(x.size:Int)<(d.size:Int):=(by omega);go_wp2;go_ret;exact⟨by rw[e.J,aH (by omega),aN (by omega)];rfl,l.J⟩
def Cz(a b:aF):Int:=
 if a.bH||b.bH then(if a.bH&&b.bH then 0 else if a.bH then -1 else 1)
 else if a.n<b.n then -1 else if b.n<a.n then 1 else qb a.s.data.toList b.s.data.toList
theorem wV(a b:aF)(w:ω)(g:a.s.size<=1000000000)(i:b.s.size<=1000000000):Calls prog 128 #[eB a,eB b] w λj w'=>j=τ (ι κ (Cz a b))/\δ w.heap.size w w':=by
 have⟨p,c,r⟩:=a;have⟨s,d,u⟩:=b;unfold eB Cz;simp only at g i ⊢;have n:=(λl=>XB r u l g i);cases p;case' false=>cases s
 (case' false.false=>by_cases y:c<d;case' neg=>by_cases z:d<c);all_goals go_in;go_wp2_with fail;all_goals (try((with_reducible refine dM (n _) ?_);rintro j l ⟨rfl,e⟩;have m:=ak (Below.trans (((aj w.heap.size w).alloc (ae _) _).alloc (by simp) _) (e.mono (by simp;omega)));clear e;go_wp2_with fail));go_ret;exact⟨rfl,by first|exact m.J|exact(((aj _ _).alloc (ae _) _).alloc (by simp) _)⟩
theorem XC(d:Γ)(c:Int)(w:ω):Calls prog 167 #[θ d,ι κ c] w λe w'=>e=τ (.bool (MZ d c))/\δ w.heap.size w w':=by unfold MZ zL kNe kLt kLe kGt;simp only[<- bX];go_in;go_wp2;all_goals go_ret;refine⟨?_,by repeat(first|exact aj _ _|refine aP ?_)⟩;simp_all;all_goals first|omega|(rw[jt];simp)
def atq(w w':ω)(r:Ending):Prop:=∃(n:Int) (k:Bool),r=τ (.tuple #[ι κ n,.bool k])/\δ w.heap.size w w'
def ant(w w':ω)(r:Ending):Prop:=∃(c:aF) (k:Bool),r=τ (.tuple #[eB c,.bool k])/\c.s.size=0/\δ w.heap.size w w'
theorem Pp(d:Γ)(a b:Int)(w:ω):Calls prog 168 #[θ d,ι κ a,ι κ b] w λe w'=>atq w w' e:=by
 by_cases c:b=0;case' neg=>have g:(b==0)=false:=by rw[aY];exact c
 case' pos=>subst c
 all_goals go_in;go_wp2;all_goals (try go_quiet(fail));(try go_wp2);go_ret2;refine⟨_,_,rfl,?_⟩;repeat(first|exact aj _ _|refine aP ?_|refine below_drewN ?_ _)
abbrev Own:=Nat×Array Value×TypeId
structure zF (w0 w:ω)(L:Δ Own):Prop where
 lo:δ w0.heap.size w0 w
 ok:∀x∈L,w.heap[x.1]?=σ (ξ x.2.1 x.2.2 (0,0))/\w0.heap.size<=x.1
 ap:L.Pairwise λx y=>x.1≠y.1
section
variable {w0 w w':ω} {L:Δ Own} {a:Own} {b:Nat} {cs:Array υ} {t:TypeId}
theorem zF.start(w:ω):zF w w []:=⟨aj _ _,λ_ c=>(by cases c),.nil⟩
theorem zF.call(c:zF w0 w L)(e:δ w.heap.size w w'):zF w0 w' L:=⟨c.lo.trans (e.mono c.lo.size),λx d=>⟨(e.block _ (aA (c.ok x d).1)).trans (c.ok x d).1,(c.ok x d).2⟩,c.ap⟩
theorem zF.new(c:zF w0 w L)(cs:Array υ)(t:TypeId):zF w0 (w.alloc (ξ cs t)) ((w.heap.size,cs,t)::L):=by have e:=c.call ((aj _ _).alloc (ae _) (ξ cs t));exact⟨e.lo,λx g=>(bV.1 g).elim (λd=>d ▸ ⟨az w _,c.lo.size⟩) (e.ok x),bE.2 ⟨λj i d=>fy _ (bY (uF d) (aA (c.ok j i).1)),c.ap⟩⟩
theorem zF.rot(c:zF w0 w (a::L)):zF w0 w (L++[a]):=
 ⟨c.lo,λx d=>c.ok x (by simpa[or_comm]using d),jG.2 ⟨(bE.1 c.ap).2,nK _ _,λx d i g e=>(bE.1 c.ap).1 x d (by rw[bj.1 g]at e;exact e.symm)⟩⟩
theorem zF.drop(c:zF w0 w (a::L)):zF w0 w L:=⟨c.lo,λx d=>c.ok x (eT _ d),(bE.1 c.ap).2⟩
theorem zF.put(c:zF w0 w ((b,cs,t)::L))(i:Nat)(u:υ):zF w0 (w.setCell (Ad b i) u) ((b,cs.setIfInBounds i u,t)::L):=by
 have⟨l,e⟩:=c.ok _ (ot ..);have g:=bE.1 c.ap;refine⟨c.lo.setCell e _,λx d=>?_,bE.2 g⟩;rcases bV.1 d with rfl|d
 {exact⟨bq w b i _ _ u l,e⟩};exact⟨(aL _ _ _ _ (λj=>g.1 x d j.symm)).trans (c.ok x (eT _ d)).1,(c.ok x (eT _ d)).2⟩
theorem zF.box(c:zF w0 w L){i:Nat}(d:L[i]?=σ (b,cs,t)):w.heap[b]?=σ (ξ cs t (0,0))/\b<w.heap.size/\w0.heap.size<=b:=⟨(c.ok _ (aq d)).1,aA (c.ok _ (aq d)).1,(c.ok _ (aq d)).2⟩
end
def ug{α:Type}(B:Nat)(t:TypeId)(k:Nat)(f:α->Δ υ)(w:ω)(v:υ)(L:Δ α):Prop:=w.ownsRow B t k v (Λ L) (L.flatMap f)
section
variable {α:Type} {B:Nat} {t:TypeId} {k:Nat} {f:α->Δ υ} {w w' W:ω} {v:υ} {L:Δ α} {x:α}
theorem ug.nil(B:Nat)(t:TypeId)(k:Nat)(f:α->Δ υ)(w:ω):ug B t k f w (ψ none 0 0) []:=eM _ _ _ _
theorem ug.aU(c:ug B t k f w v L)(d:δ w.heap.size w w'):ug B t k f w' v L:=cO c d
theorem ug.slice(e:ug B t k f w v L):∃a c,v=ψ a (Λ L) c:=by obtain⟨a,c,d,-⟩:=cR e;exact⟨a,c,d⟩
theorem ug.row(c:ug B t k f w v L):aS w k v (Λ L) (L.flatMap f):=aS.dE c
theorem ug.push{v':υ}{ob:Obj}(c:ug B t k f w v L)(i:δ B W w)(g:B<=w.heap.size)(d:w'.ownsRow B t k v' (Λ L+1) (L.flatMap f++f x))(e:(w.alloc ob).grownBy w' v.ownBlock):ug B t k f w' v' (L++[x])/\δ B W w':=by refine⟨?_,(i.alloc g _).grown e (by simp;omega) (λk j=>(gR c k j).1)⟩;unfold ug;rw[au,cX,lP];exact d
theorem ug.asks{arr:Array υ}(g:ug B t k f w v L)(l:B<=w.heap.size)(j:Λ L+1<=100000):(w.alloc (ξ arr t)).ownsRow B t k v (Λ L) (L.flatMap f)/\(∀d e,arr.toList[d]?=σ e->(w.alloc (ξ arr t)).cell? ((Ad w.heap.size 0).add d)=σ e)/\(Λ L)+1<=maxLen/\(∀c,c<=1000->(Λ L+1)*c<=140737488355328)/\B<=(w.alloc (ξ arr t)).heap.size:=
 ⟨pV g _,World.news_of_block (az w _),by unfold maxLen;omega,λc i=>ay (jr j i) (by decide),by simp;omega⟩
end
theorem Pq(n:Γ)(a b:aF)(w:ω)(T:a.s.size<=1000000000)(c:b.s.size<=1000000000):Calls prog 127 #[θ n,eB a,eB b] w λi w'=>ant w w' i:=by
 have E:=ak (λj=>wV a b j T c);have⟨l,z,F⟩:=a;have⟨m,A,G⟩:=b;unfold eB at E ⊢;simp only at T c E ⊢;have⟨W,K⟩:=nm (((w.alloc (ξ #[.bool l,ι κ z,θ F] 129)).alloc (ξ #[.bool m,ι κ A,θ G] 129)).alloc (ξ #[.bool false,ι κ 0,θ ⟨#[]⟩] 129));have y:=ak (λwr (c:δ W.heap.size W wr)=>(show wr.heap[w.heap.size]?=σ (ξ #[.bool l,ι κ z,θ F] 129)/\wr.heap[w.heap.size+1]?=σ (ξ #[.bool m,ι κ A,θ G] 129)/\wr.heap[w.heap.size+1+1]?=σ (ξ #[.bool false,ι κ 0,θ ⟨#[]⟩] 129)/\δ w.heap.size w wr from by
  have⟨C,D,I,R⟩:=K ▸ Kw w _ _ _;exact⟨(c.block _ (aA C)).trans C,(c.block _ (aA D)).trans D,(c.block _ (aA I)).trans I,R.trans (c.mono R.size)⟩))
 by_cases hn:l=true\/m=true;{have N:=ak (Pn W);unfold eB at N;cases l;(case' false=>cases m);(case' false.false=>simp at hn);all_goals go_in;go_wp21;rw[<- K];refine N.J.mono ?_;rintro i j ⟨rfl,g⟩;obtain⟨-,-,e,u⟩:=y.J j g;have⟨⟨V,X,Y⟩,z0,z1,z2,U⟩:=ni e;have d:=ak (Cy u (by omega) e (.bool fj.bH) (ι κ fj.n) (θ fj.s));go_wp2;obtain⟨⟨p,r,s⟩,-⟩:=ni d.J.1;refine aE (by simp[results,results127,go_sem,p,r,s];rfl) rfl ?_;exact⟨fj,_,rfl,rfl,d.J.2⟩};obtain rfl:l=false:=(by cases l<;>simp_all);obtain rfl:m=false:=(by cases m<;>simp_all);have OG:=(FQ n W);go_in;go_wp21;rw[<- K];refine OG.mono ?_;rintro i j ⟨rfl,g⟩;obtain⟨C,D,I,-⟩:=y.J j g;obtain⟨⟨a0,a1,a2⟩,-,-,-,la⟩:=ni C;obtain⟨⟨b0,b1,b2⟩,-,-,-,lb⟩:=ni D;cases jm n;{have HM:=ak (Pp n z A j);go_wp21;refine HM.J.mono ?_;rintro i M ⟨Z,k,rfl,H⟩;obtain⟨-,-,e,u⟩:=y.J M (g.trans (H.mono g.size));have⟨⟨V,X,Y⟩,z0,z1,z2,U⟩:=ni e;have d:=ak (Cy u (by omega) e (.bool false) (ι κ Z) (θ ⟨#[]⟩));go_wp2;obtain⟨⟨p,r,s⟩,-⟩:=ni d.J.1;refine aE (by simp[results,results127,go_sem,p,r,s];rfl) rfl ?_;exact⟨ox Z,_,rfl,rfl,d.J.2⟩};go_wp21;refine(E.J j).mono ?_;rintro i M ⟨rfl,H⟩;have P:=(g.trans (H.mono g.size));have HH:=(λaa=>XC n aa M);go_wp21;refine(HH _).mono ?_;rintro i w3 ⟨rfl,Q⟩;have r7:=(P.trans (Q.mono P.size));have⟨b,c⟩:=nm (MZ n (Cz ⟨false,z,F⟩ ⟨false,A,G⟩));rw[<- c];have O:=ak (H6 b w3);clear Q c;unfold eB at O;go_wp21;refine O.J.mono ?_;rintro i w4 ⟨rfl,qP⟩;obtain⟨-,-,e,u⟩:=y.J w4 (r7.trans (qP.mono r7.size));have⟨⟨V,X,Y⟩,z0,z1,z2,U⟩:=ni e;have d:=ak (Cy u (by omega) e (.bool (iy b).bH) (ι κ (iy b).n) (θ (iy b).s));go_wp2;obtain⟨⟨p,r,s⟩,-⟩:=ni d.J.1;refine aE (by simp[results,results127,go_sem,p,r,s];rfl) rfl ?_;exact⟨iy b,_,rfl,rfl,d.J.2⟩
section
def sZ(w:ω)(b o:Nat)(ns:Δ cz):Prop:=b<w.heap.size/\∃nv,Ξ w (Ad b (o+10))=σ nv/\aS w 7 nv (Λ ns) (kZ ns)
theorem sZ.aU{w w':ω}{b o B:Nat}{ns:Δ cz}(g:sZ w b o ns)(c:δ B w w')(e:w.heap.size<=B):sZ w' b o ns:=by have⟨d,nv,i,j⟩:=g;exact⟨aw d c.size,nv,(c.cell (p:=Ad b (o+10)) (aw d e)).trans i,j.aU c e⟩
theorem sZ.get{w:ω}{b o:Nat}{ns:Δ cz}(m:sZ w b o ns){k:Nat}{x:cz}(l:ns[k]?=σ x):∃c d j,Ξ w (Ad b (o+10))=σ (ψ (σ (Ad c d)) (Λ ns) j)/\(c<w.heap.size/\b<w.heap.size/\(k:Int)<Λ ns)/\Ξ w (Ad c (d+k*7))=σ (θ x.op)/\Ξ w (Ad c (d+k*7+1))=σ (ι κ x.pl)/\Ξ w (Ad c (d+k*7+2))=σ (ι κ x.first)/\Ξ w (Ad c (d+k*7+3))=σ (ι κ x.a)/\Ξ w (Ad c (d+k*7+4))=σ (ι κ x.b)/\Ξ w (Ad c (d+k*7+5))=σ (ι κ x.n)/\Ξ w (Ad c (d+k*7+6))=σ (θ x.s):=by have⟨n,nv,p,r⟩:=m;have A:=(ah.mp l).1;obtain⟨c,d,j,rfl,-,s,z⟩:=r.at (by omega);have e:∀g,g<7->∀i,(uf x)[g]?=σ i->Ξ w (Ad c (d+(k*7+g)))=σ i:=λg u i y=>z _ i ((cV uf 7 (λ_=>rfl) ns l u).trans y);exact⟨c,d,j,p,⟨s,n,by omega⟩,e 0 (by decide) _ rfl,e 1 (by decide) _ rfl,e 2 (by decide) _ rfl,e 3 (by decide) _ rfl,e 4 (by decide) _ rfl,e 5 (by decide) _ rfl,e 6 (by decide) _ rfl⟩
structure E1 (w:ω)(b o:Nat)(ns:Δ cz)(cv rv:υ)(cy:Δ bU)(row:Δ aF):Prop where
 gp:sZ w b o ns
 hc:eK w cv cy
 hr:dW w rv row
 len:Λ row=Λ cy/\(Λ cy)<=100000
 small:∀c∈row,c.s.size<=1000000000
theorem E1.aU{w w':ω}{b o B:Nat}{ns:Δ cz}{cv rv:υ}{cy:Δ bU}{row:Δ aF}(c:E1 w b o ns cv rv cy row)(e:δ B w w')(d:w.heap.size<=B):E1 w' b o ns cv rv cy row:=⟨c.gp.aU e d,c.hc.aU e d,aS.aU c.hr e d,c.len,c.small⟩
def vJ(w w':ω)(r:Ending):Prop:=∃(c:aF) (p:Int),r=τ (.tuple #[eB c,ι κ p])/\c.s.size<=1000000000/\δ w.heap.size w w'
def att(b o:Nat)(ns:Δ cz)(cv rv:υ)(cy:Δ bU)(row:Δ aF)(e:Ex):Prop:=∀k w,OD ns k e->E1 w b o ns cv rv cy row->Calls prog 87 #[π (σ (Ad b o)),cv,rv,ι κ k] w λr w'=>vJ w w' r
theorem Dl{op:Γ}(c:Δ UInt8){b:Bool}(d:ct op (bs c)=b):(op.toList==c)=b:=(bX op c).trans d
variable {b o:Nat} {ns:Δ cz} {cv rv:υ} {cy:Δ bU} {row:Δ aF}
theorem eval_const{k:Nat}{w:ω}{x:cz}(j:ns[k]?=σ x)(d:x.op=M9\/x.op=wU\/x.op=E0)(i:x.op=E0->x.s.size<=1000000000)(c:E1 w b o ns cv rv cy row):Calls prog 87 #[π (σ (Ad b o)),cv,rv,ι κ k] w λy w'=>vJ w w' y:=by
 have⟨I,G,E,A,⟨M,K,N⟩,l,m,n,p,r,s,u⟩:=c.gp.get j;obtain⟨D,F,rfl⟩:=c.hc.slice;obtain⟨R,T,rfl⟩:=aS.slice c.hr;have X:=c.len.2;have⟨P,Q,H,a,C,O,U⟩:=x;simp only at d l m n p r s u;rcases d with rfl|rfl|rfl
 case' inl=>have e:=Dl (op:=M9) [110,117,109] (b:=true) (by decide)
 (case' inr.inl=>have e:=Dl (op:=wU) [110,117,109] (b:=false) (by decide);have z:=Dl (op:=wU) [98,111,111,108] (b:=true) (by decide));(case' inr.inr=>have e:=Dl (op:=E0) [110,117,109] (b:=false) (by decide);have z:=Dl (op:=E0) [98,111,111,108] (b:=false) (by decide);have V:=Dl (op:=E0) [115,116,114] (b:=true) (by decide));all_goals have g:=ak i;go_in;go_wp2;refine aE (by simp[results,results87,go_sem];rfl) rfl ?_;exact⟨⟨false,_,_⟩,-1,rfl,by first|exact g.J trivial|exact aB _,((aj _ _).alloc (ae _) _).alloc (by simp) _⟩
def rC(x:cz):Array υ:=#[θ x.op,ι κ x.pl,ι κ x.first,ι κ x.a,ι κ x.b,ι κ x.n,θ x.s]
theorem abj{k:Nat}{w:ω}{x:cz}(K:ns[k]?=σ x)(u:x.op=Cw)(i:wP cy x.s=σ p)(c:E1 w b o ns cv rv cy row):Calls prog 87 #[π (σ (Ad b o)),cv,rv,ι κ k] w λy w'=>vJ w w' y:=by
 have⟨ac,ab,aa,V,⟨lg,lb,lk⟩,M,N,O,P,Q,R,T⟩:=c.gp.get K;have D:p<Λ cy:=by unfold wP at i;exact(aR.1 i).1
 obtain⟨d,n⟩:∃d,row[p]?=σ d:=⟨_,af (by rw[c.len.1];exact D)⟩;have s:=c.small d (aq n);obtain⟨Z,cc,rfl⟩:=c.hc.slice;have A:=c.hr;have⟨W,m⟩:=nm ((w.alloc (ξ #[.bool false,ι κ 0,θ ⟨#[]⟩] 129)).alloc (ξ (rC x) 207));have l:zF w W [(w.heap.size+1,rC x,207),(w.heap.size,#[.bool false,ι κ 0,θ ⟨#[]⟩],129)]:=(by have:=((zF.start w).new #[.bool false,ι κ 0,θ ⟨#[]⟩] 129).new (rC x) 207;rw[show(w.alloc (ξ #[.bool false,ι κ 0,θ ⟨#[]⟩] 129)).heap.size=w.heap.size+1 by simp,<- m]at this;exact this);have z:=ak (pQ cy _ x.s W (c.hc.aU l.lo (ae _)) c.len.2);rw[show mI cy x.s=(p:Int)by unfold mI;rw[i]]at z;have e:=ak m;have U:(p:Int)<Λ row:=by have:=c.len.1;omega
 have uq:=c.len.2;have⟨ra,rc,C⟩:=aS.slice c.hr;unfold rC at e;obtain⟨op,pl,fi,a,X,ad,ag⟩:=x;simp only at u M N O P Q R T s e;subst u;have t1:=Dl (op:=Cw) [110,117,109] (b:=false) (by decide);have t2:=Dl (op:=Cw) [98,111,111,108] (b:=false) (by decide);have t3:=Dl (op:=Cw) [115,116,114] (b:=false) (by decide);have t4:=Dl (op:=Cw) [99,111,108] (b:=true) (by decide);subst C;go_in;go_wp21;rw[<- e.J];refine z.J.mono ?_;rintro y w1 ⟨rfl,E⟩;have g:=l.call E;obtain⟨g',d',Y,I,x0,x1,x2⟩:=dW.get (aS.aU A g.lo (ae _)) n;cases I;obtain⟨r,oY,-⟩:=g.box (i:=1) rfl;obtain⟨⟨k0,k1,k2⟩,z0,z1,z2,-⟩:=ni r;have j:=ak (Cy g.lo (ae _) r (.bool d.bH) (ι κ d.n) (θ d.s));go_wp2;obtain⟨⟨F,G,H⟩,-⟩:=ni j.J.1;refine aE (by simp[results,results87,go_sem,F,G,H];rfl) rfl ?_;exact⟨d,-1,rfl,s,j.J.2⟩
end
section
def DF:Nat ⊕ (Nat×Nat)->υ
 |.inl k=>.tuple #[ι κ k,ι κ 0,ι κ 0]
 |.inr q=>.tuple #[ι κ 0,ι κ q.1,ι κ q.2]
def anu(w w':ω)(r:Ending)(K:Nat ⊕ (Nat×Nat)):Prop:=r=τ (DF K)/\δ w.heap.size w w'
structure Tw (w:ω)(b o:Nat)(ns:Δ cz)(cv:υ)(cy:Δ bU):Prop where
 gp:sZ w b o ns
 hc:eK w cv cy
 len:Λ cy<=100000
theorem Tw.aU{w w':ω}{b o B:Nat}{ns:Δ cz}{cv:υ}{cy:Δ bU}(c:Tw w b o ns cv cy)(e:δ B w w')(d:w.heap.size<=B):Tw w' b o ns cv cy:=⟨c.gp.aU e d,c.hc.aU e d,c.len⟩
def XD(b o:Nat)(ns:Δ cz)(cv:υ)(cy:Δ bU)(k:Nat)(K:Nat ⊕ (Nat×Nat)):Prop:=∀w,Tw w b o ns cv cy->Calls prog 95 #[π (σ (Ad b o)),cv,ι κ k] w λr w'=>anu w w' r K
variable {b o:Nat} {ns:Δ cz} {cv:υ} {cy:Δ bU} {k:Nat} {x:cz}
theorem CA(d:ns[k]?=σ x)(e:x.op=M9/\p=0\/x.op=E0/\p=1\/x.op=wU/\p=2):XD b o ns cv cy k (.inl p):=by
 intro w c;have⟨G,E,C,y,⟨I,H,K⟩,i,j,l,m,n,r,s⟩:=c.gp.get d;obtain⟨A,D,rfl⟩:=c.hc.slice;have R:=c.len;clear c d;obtain⟨N,O,F,a,z,M,P⟩:=x;simp only at e i j l m n r s;rcases e with⟨rfl,rfl⟩|⟨rfl,rfl⟩|⟨rfl,rfl⟩
 case' inl=>have g:=Dl (op:=M9) [110,117,109] (b:=true) (by decide)
 (case' inr.inl=>have g:=Dl (op:=E0) [110,117,109] (b:=false) (by decide);have u:=Dl (op:=E0) [115,116,114] (b:=true) (by decide));(case' inr.inr=>have g:=Dl (op:=wU) [110,117,109] (b:=false) (by decide);have u:=Dl (op:=wU) [115,116,114] (b:=false) (by decide);have Q:=Dl (op:=wU) [98,111,111,108] (b:=true) (by decide));all_goals go_in;go_wp2;go_ret3;exact⟨rfl,(aj _ _).alloc (ae _) _⟩
theorem abk(F:ns[k]?=σ x)(P:x.op=Cw):XD b o ns cv cy k (dp cy (.col x.s x.pl)):=by
 intro w c;have⟨ad,ac,ab,T,⟨lg,lb,lk⟩,G,H,I,K,M,N,O⟩:=c.gp.get F;have⟨W,p⟩:=nm (w.alloc (ξ (rC x) 207));have m:=(zF.start w).new (rC x) 207;rw[<- p]at m;have Q:=ak (pQ cy _ x.s W (c.hc.aU m.lo (ae _)) c.len);have R:=c.hc;have j:=ak p;obtain⟨ca,cc,rfl⟩:=c.hc.slice;have uq:=c.len;clear c F p;unfold rC at j;obtain⟨op,s,fi,a,b',ag,e⟩:=x;simp only at P G H I K M N O j Q ⊢;subst P;have t1:=Dl (op:=Cw) [110,117,109] (b:=false) (by decide);have t2:=Dl (op:=Cw) [98,111,111,108] (b:=false) (by decide);have t3:=Dl (op:=Cw) [115,116,114] (b:=false) (by decide);have t4:=Dl (op:=Cw) [99,111,108] (b:=true) (by decide);have⟨u,n⟩:=nm (dp cy (.col e s));rw[<- n];go_in;go_wp21;rw[<- j.J];refine Q.J.mono ?_;rintro ai Y ⟨rfl,z⟩;have r:=m.call z;obtain⟨E,Dk,-⟩:=r.box (i:=0) rfl;have m1:Ξ Y (Ad w.heap.size 1)=σ (ι κ s):=bB E 1;have i:=r.lo;clear z E r G H I K M N O T;cases gW:wP cy e with
 |none=>
  have l:Hid (u=.inr (5,s)):=ak (by
   rw[n];simp only[dp]
   cases hf:cy.find? (λg=>ct g.1 e)with
   |none=>rfl
   |some g=>obtain⟨d,A⟩:=Pm hf;rw[gW]at A;cases A)
  rw[show mI cy e=-1 by unfold mI;rw[gW]];go_wp2;go_quiet(fail);go_wp2;go_ret3;exact⟨by rw[l.J];rfl,below_drewN i _⟩
 |some d=>
  obtain⟨C,y,D⟩:=aR.1 (show cy.findIdx? (λg=>ct g.1 e)=σ d from gW);have l:Hid (u=.inl cy[d].2):=ak (by
   rw[n];simp only[dp];rw[show cy.find? (λg=>ct g.1 e)=σ cy[d]from sT.2 ⟨y,d,C,rfl,λX V=>by simpa using D X V⟩])
  obtain⟨g',d',cp,U,Z,y1⟩:=(R.aU i (ae _)).get (af C);cases U;rw[show mI cy e=(d:Int)by unfold mI;rw[gW]];have aa:(d:Int)<Λ cy:=by omega
  clear y D Z gW;go_wp2;go_ret3;exact⟨by rw[l.J];rfl,i⟩
def Ps(op:Γ):Nat:=if pP op||ct op Cx then 0 else 2
def BR(op:Γ)(pl:Nat)(k j:Nat):Nat ⊕ (Nat×Nat):=if k≠j\/(k≠Ps op/\jm op=false)then .inr (7,pl)else .inl (Ps op)
theorem yh(hx:ns[k]?=σ x){s B:Nat ⊕ (Nat×Nat)}(X:XD b o ns cv cy x.a s)(hE:∀q,s=.inr q->q.1≠0)(ab:∀q,B=.inr q->q.1≠0){l:Nat ⊕ (Nat×Nat)}
 (j:(ct x.op M9=false/\ct x.op E0=false/\ct x.op wU=false/\ct x.op Cw=false)/\
   ((ct x.op yf=true\/ct x.op tD=true)/\l=s.map (λ_=>2) id\/
    (ct x.op yf=false/\ct x.op tD=false)/\((ct x.op Cx=true\/ct x.op Hy=true)/\l=s.elim (λk=>BR x.op x.pl k k) .inr\/
     (ct x.op Cx=false/\ct x.op Hy=false)/\XD b o ns cv cy x.b B/\l=s.elim (λk=>B.elim (λac=>BR x.op x.pl k ac) .inr) .inr))):XD b o ns cv cy k l:=by
 intro w d;have⟨ao,an,am,Tv,⟨lg,lb,lk⟩,n0,p,n2,n3,n4,n5,n6⟩:=d.gp.get hx;have⟨W,K⟩:=nm (w.alloc (ξ (rC x) 207));have I:=(zF.start w).new (rC x) 207;rw[<- K]at I;have R:=ak (X W (d.aU I.lo (ae _)));have H:=ak K;obtain⟨ca,cc,rfl⟩:=d.hc.slice;clear hx K X;unfold rC at H;obtain⟨c,r,fi,a,b',ap,ar⟩:=x;simp only at j n0 p n2 n3 n4 n5 n6 H R;obtain⟨⟨t1,t2,t3,t4⟩,j⟩:=j;unfold M9 E0 wU Cw yf tD Cx Hy at *;rw[<- bX]at t1 t2 t3 t4;simp only[<- bX]at j;go_in;go_wp21;rw[<- H.J];refine R.J.mono ?_;rintro F C ⟨rfl,T⟩;have i:=I.call T;obtain⟨e,Dk,-⟩:=i.box (i:=0) rfl;have m0:Ξ C (Ad w.heap.size 0)=σ (θ c):=bB e 0;have m1:Ξ C (Ad w.heap.size 1)=σ (ι κ r):=bB e 1;have m4:Ξ C (Ad w.heap.size 4)=σ (ι κ b'):=bB e 4;have z:=ak i;clear T e i n0 p n2 n3 n4 n5 n6 Tv;cases s with
 |inr q=>have hq:((q.1:Int) != 0)=true:=(by rw[dZ];have:=hE q rfl;omega);have u:Hid (l=.inr q):=ak (by rcases j with⟨-,d⟩|⟨-,⟨-,d⟩|⟨-,-,d⟩⟩<;>exact d);unfold DF;clear j;go_wp2;go_ret3;exact⟨by rw[u.J];rfl,z.J.lo⟩
 |inl g=>
  unfold DF;simp only[Sum.map_inl,Sum.elim_inl]at j;rcases j with⟨d,m⟩|⟨⟨u1,u2⟩,j⟩
  {have u:=ak m;clear m;obtain u1|⟨u1,u2⟩:(c.toList==[105,115,110,117,108,108])=true\/(c.toList==[105,115,110,117,108,108])=false/\(c.toList==[110,111,116,110,117,108,108])=true:=(by cases h5:(c.toList==[105,115,110,117,108,108])<;>simp_all);all_goals go_wp2;go_ret3;exact⟨by rw[u.J];rfl,z.J.lo⟩}
  have P:=ak (λy=>XA c y);have OG:=(λy=>FQ c y);rcases j with⟨d,m⟩|⟨⟨u3,u4⟩,Y,m⟩
  (case' inl=>have⟨n,M⟩:=nm g;have u:Hid (l=BR c r g n):=ak (by rw[m,M]);have A:=z;have⟨ad,hX⟩:=nm C;clear m;obtain u3|⟨u3,u4⟩:(c.toList==[110,101,103])=true\/(c.toList==[110,101,103])=false/\(c.toList==[110,111,116])=true:=(by cases h5:(c.toList==[110,101,103])<;>simp_all);all_goals go_wp21;(with_reducible refine dM (P.J _) ?_);rintro F G ⟨rfl,E⟩;have i:=A.J.call E;have p:((g:Int) != (n:Int))=false:=(by rw[M];simp);clear M hX);case' inr=>
   have XE:=(Y C (d.aU z.J.lo (ae _)));clear Y;go_wp21;refine XE.mono ?_;rintro F y ⟨rfl,U⟩;have A:=(z.J.call U);obtain⟨e,ai,-⟩:=A.box (i:=0) rfl;have l1:Ξ y (Ad w.heap.size 1)=σ (ι κ r):=bB e 1;have l0:Ξ y (Ad w.heap.size 0)=σ (θ c):=bB e 0;clear U e m0 m1 m4;rcases B with n|q
   (case' inr=>have hq:((q.1:Int) != 0)=true:=(by rw[dZ];have:=ab q rfl;omega);unfold DF;go_wp2;go_ret3;exact⟨by rw[m];rfl,A.lo⟩);case' inl=>have u:Hid (l=BR c r g n):=ak m;unfold DF;go_wp21;(with_reducible refine dM (P.J _) ?_);rintro F G ⟨rfl,E⟩;have i:=A.call E;have p:((g:Int) != (n:Int))=false\/((g:Int) != (n:Int))=true:=by cases((g:Int) != (n:Int))<;>simp
  all_goals
   obtain⟨e,al,-⟩:=i.box (i:=0) rfl;have s1:Ξ G (Ad w.heap.size 1)=σ (ι κ r):=bB e 1;have s0:Ξ G (Ad w.heap.size 0)=σ (θ c):=bB e 0;have D:=ak i;have Q:Hid (l=if g≠n\/(g≠(if Hz c then 0 else 2)/\jm c=false)then .inr (7,r)else .inl (if Hz c then 0 else 2)):=u;have aa:=(OG G);clear E i e;(try clear m0 m1 m4);(try clear l0 l1);obtain⟨N,O⟩|⟨N,O⟩|⟨N,O⟩:((g:Int) != 0)=false/\((g:Int) != 2)=true\/((g:Int) != 0)=true/\((g:Int) != 2)=false\/((g:Int) != 0)=true/\((g:Int) != 2)=true:=(by simp only[bne_iff_ne,bne_eq_false_iff_eq];omega);(all_goals (try rcases p with p|p);(all_goals cases har:Hz c);all_goals rw[har]at Q;go_wp21)
   all_goals(try(
    (with_reducible refine dM aa ?_)
    rintro F w4 ⟨rfl,qP⟩;have i:=D.J.call qP;obtain⟨e,ag,-⟩:=i.box (i:=0) rfl;have r1:Ξ w4 (Ad w.heap.size 1)=σ (ι κ r):=bB e 1;have D:=ak i;clear qP i e s0 s1
    cases Sm:jm c
    all_goals go_wp2_with fail))
   all_goals
    (try(go_quiet(fail);go_wp2_with fail));go_ret3;have Z:=Q.J;simp only[Bool.false_eq_true,if_false,if_true]at Z;simp only[bne_iff_ne,bne_eq_false_iff_eq]at p N O;refine⟨?_,by first|exact D.J.lo|exact below_drewN D.J.lo _⟩;rw[Z];split;all_goals first
     |rfl
     | (rename_i d
        exfalso
        first
        | (rcases d with d|⟨d,V⟩
           . omega
           . first
             |omega
             | (rw[Sm]at V;cases V))
        | (apply d
           first
           | (left;omega)
           | (right;refine⟨?_,Sm⟩;omega)))
end
section
variable {b o:Nat} {ns:Δ cz} {cv:υ} {cy:Δ bU}
theorem kG{cy:Δ bU}:∀{d:Ex} {q:Nat×Nat},dp cy d=.inr q->q.1≠0
 |.num _,q,h|.str _,q,h|.bool _,q,h|.junk,q,h=>by cases h
 |.col _ _,q,h=>by
   simp only[dp]at h;split at h<;>cases h
   simp
 |.lA _ _ x,q,h=>by
   simp only[dp]at h;split at h<;>cases h
   exact kG ‹_›
 |.neg _ x,q,h|.not _ x,q,h=>by
   simp only[dp]at h;split at h
   . cases h;exact kG ‹_›
   . split at h<;>cases h
     simp
 |.two op _ x y,q,h=>by
   simp only[dp]at h;split at h
   . cases h;exact kG ‹_›
   . split at h
     . cases h;exact kG ‹_›
     . rename_i k _ _ e _
       by_cases c:k≠e\/(k≠(if pP op then 0 else 2)/\jm op=false)
       . rw[aN c]at h;cases h;simp
       . rw[aH c]at h;cases h
theorem uT:∀(e:Ex) {k:Nat},tS e->OD ns k e->XD b o ns cv cy k (dp cy e)
 |.num _,_,_,⟨_,hx,ho,_⟩=>CA hx (.inl ⟨ho,rfl⟩)
 |.str _,_,_,⟨_,hx,ho,_⟩=>CA hx (.inr (.inl ⟨ho,rfl⟩))
 |.bool _,_,_,⟨_,hx,ho,_⟩=>CA hx (.inr (.inr ⟨ho,rfl⟩))
 |.junk,_,_,hr=>hr.elim
 |.col s a,_,_,⟨x,hx,ho,hs,ha⟩=>by subst hs ha;exact abk hx ho
 |.lA no a x,_,hw,⟨v,hx,ho,ha,hr⟩=>by
   refine yh hx (B:=.inl 0) (uT x hw hr) (λq c=>kG c) (λq c=>by cases c) ⟨?_,.inl ⟨?_,?_⟩⟩
   . rw[ho];cases no<;>decide
   . rw[ho];cases no<;>decide
   . simp only[dp]
     cases dp cy x<;>rfl
 |.neg a x,_,hw,⟨v,hx,ho,ha,hr⟩=>by
   subst ha;refine yh hx (B:=.inl 0) (uT x hw hr) (λq c=>kG c) (λq c=>by cases c) ⟨by rw[ho];decide,.inr ⟨by rw[ho];decide,.inl ⟨by rw[ho];decide,?_⟩⟩⟩;simp only[dp]
   cases dp cy x with
   |inr q=>rfl
   |inl k=>
     show _=BR v.op v.pl k k;unfold BR;rw[ho,show Ps Cx=0 by decide,show jm Cx=false by decide];by_cases c:k=0<;>simp[c]
 |.not a x,_,hw,⟨v,hx,ho,ha,hr⟩=>by
   subst ha;refine yh hx (B:=.inl 0) (uT x hw hr) (λq c=>kG c) (λq c=>by cases c) ⟨by rw[ho];decide,.inr ⟨by rw[ho];decide,.inl ⟨by rw[ho];decide,?_⟩⟩⟩;simp only[dp]
   cases dp cy x with
   |inr q=>rfl
   |inl k=>
     show _=BR v.op v.pl k k;unfold BR;rw[ho,show Ps Hy=2 by decide,show jm Hy=false by decide];by_cases c:k=2<;>simp[c]
 |.two d a x y,_,hw,⟨v,hx,ho,ha,hr,hr2⟩=>by
   subst ho ha;have u:(qD.all λd=>!ct d M9&&!ct d E0&&!ct d wU&&!ct d Cw&&!ct d yf&&!ct d tD&&!ct d Cx&&!ct d Hy)=true:=by decide
   have:=gQ.1 u v.op hw.1;simp only[Bool.and_eq_true,Bool.not_eq_true']at this;have⟨⟨⟨⟨⟨⟨⟨i,j⟩,l⟩,m⟩,n⟩,p⟩,g⟩,r⟩:=this;refine yh hx (uT x hw.2.1 hr) (λq c=>kG c) (λq c=>kG c) ⟨⟨i,j,l,m⟩,.inr ⟨⟨n,p⟩,.inr ⟨⟨g,r⟩,uT y hw.2.2 hr2,?_⟩⟩⟩;simp only[dp]
   cases dp cy x with
   |inr q=>rfl
   |inl k=>
     cases dp cy y with
     |inr q=>rfl
     |inl z=>
       show _=BR v.op v.pl k z;unfold BR Ps;rw[g,wN]
def abl(q:Nat×Nat):υ:=.tuple #[ι κ q.1,ι κ q.2]
theorem Pt(c:Ex){k:Nat}{x:cz}{w:ω}(r:tS c)(y:OD ns k c)(z:ns[k]?=σ x)(j:Tw w b o ns cv cy):Calls prog 68 #[π (σ (Ad b o)),cv,ι κ k] w λp w'=>p=τ (abl (oV cy c x.first))/\δ w.heap.size w w':=by have s:=(uT (b:=b) (o:=o) (cv:=cv) (cy:=cy) c r y w j);obtain⟨C,E,rfl⟩:=j.hc.slice;have⟨g,n⟩:=nm (oV cy c x.first);rw[<- n];have i:=ak n;go_in;go_wp21;refine s.mono ?_;rintro p V ⟨rfl,e⟩;have⟨G,F,D,A,⟨K,I,M⟩,N,O,P,Q,R,T,U⟩:=(j.aU e (ae _)).gp.get z;cases hkx:dp cy c with|inr q=>(have H:((q.1:Int) != 0)=true:=(by rw[dZ];have:=kG hkx;omega);have d:Hid (g=q):=ak (by rw[i.J];simp only[oV,hkx]);unfold DF;go_wp2;go_ret2;exact⟨by rw[d.J];rfl,e⟩)|inl m=>by_cases l:m=2;(case' pos=>have u:((m:Int) != 2)=false:=(by rw[l];rfl);have d:Hid (g=(0,0)):=ak (by rw[i.J];simp only[oV,hkx,l,if_true]));(case' neg=>have u:((m:Int) != 2)=true:=(by rw[dZ];omega);have d:Hid (g=(7,x.first)):=ak (by rw[i.J];simp only[oV,hkx,l,if_false]));all_goals unfold DF;go_wp2;(try(go_quiet(fail);go_wp2_with fail));go_ret2;exact⟨by rw[d.J];rfl,by first|exact e|exact below_drewN e _⟩
end
def oB(st:dz)(nv ev mv dv:υ):Array υ:=#[θ st.cU,ι κ st.pl,θ st.tj.1,ι κ st.tj.2,nv,ev,θ st.left.1,ι κ st.left.2,θ st.right.1,ι κ st.right.2,ι κ st.eq,mv,dv,ι κ st.n]
def rD(m:rm):Δ υ:=[θ m.aI.1,ι κ m.aI.2,θ m.fn,ι κ m.pl,θ m.ov.1,ι κ m.ov.2,.bool m.fq]
def Ky(ns:Δ cz)(k:Nat)(e:Ex×Nat):Prop:=tS e.1/\OD ns k e.1/\∃x,ns[k]?=σ x/\x.first=e.2
structure Kz (w:ω)(ns:Δ cz)(st:dz)(nv ev mv dv:υ):Prop where
 bJ:rB w nv st.bJ
 fG:∃ks,Λ ks=Λ st.fG/\lR w ev ks/\∀(i k:Nat) (e:Ex×Nat),ks[i]?=σ k->st.fG[i]?=σ e->Ky ns k e
 eY:aS w 7 mv (Λ st.eY) (st.eY.flatMap rD)
 down:aS w 1 dv (Λ st.down) (st.down.map .bool)
 len:Λ st.bJ<=100000/\(Λ st.fG)<=100000/\(Λ st.eY)<=100000/\(Λ st.down)<=100000
theorem Kz.aU{w w':ω}{ns:Δ cz}{st:dz}{nv ev mv dv:υ}{B:Nat}(c:Kz w ns st nv ev mv dv)(e:δ B w w')(d:w.heap.size<=B):Kz w' ns st nv ev mv dv:=by have⟨l,g,i,j⟩:=c.fG;exact⟨aS.aU c.bJ e d,⟨l,g,aS.aU i e d,j⟩,c.eY.aU e d,c.down.aU e d,c.len⟩
theorem Tryz.yi:(prog.info? 152).map (λc=>(c.zero,c.size,c.bytes))=σ (σ (.agg #[θ ⟨#[]⟩,ι κ 0]),2,24):=by kernel_rfl
def Small(l:Δ bU):Prop:=∀x∈l,x.1.size<=1000000000
theorem Small.snoc{d:Δ bU}{c:bU}(g:Small d)(i:c.1.size<=1000000000):Small (d++[c]):=λx j=>(bA.1 j).elim (g x) λe=>by rw[bj.1 e];exact i
def V2(w w':ω)(r:Ending)(cv:υ)(P:Δ bU->Prop):Prop:=∃(v:υ) (e p:Nat),r=τ (.tuple #[v,ι κ e,ι κ p])/\(∃a n c,v=ψ a n c)/\(e=0->∃cy,eK w' v cy/\P cy/\(v=cv\/∀g,v.ownBlock=σ g->w.heap.size<=g))/\δ w.heap.size w w'
section
variable {nv ev mv dv:υ} {cy:Δ bU} {st:dz}
theorem E4{w:ω}{v:υ}{e:Δ rm}(n:aS w 7 v (Λ e) (e.flatMap rD)){d:rm}(l:e[p]?=σ d):∃c o j,v=ψ (σ (Ad c o)) (Λ e) j/\c<w.heap.size/\Ξ w (Ad c (o+p*7))=σ (θ d.aI.1)/\Ξ w (Ad c (o+p*7+1))=σ (ι κ d.aI.2)/\Ξ w (Ad c (o+p*7+2))=σ (θ d.fn)/\Ξ w (Ad c (o+p*7+3))=σ (ι κ d.pl)/\Ξ w (Ad c (o+p*7+4))=σ (θ d.ov.1)/\Ξ w (Ad c (o+p*7+5))=σ (ι κ d.ov.2)/\Ξ w (Ad c (o+p*7+6))=σ (.bool d.fq):=by obtain⟨c,o,j,m,-,r,y⟩:=aS.at n (bY (aB _) (ah.mp l).1);have q:∀g,g<7->∀i,(rD d)[g]?=σ i->Ξ w (Ad c (o+(p*7+g)))=σ i:=λg s i u=>y _ i ((cV rD 7 (λ_=>rfl) e l s).trans u);exact⟨c,o,j,m,r,q 0 (by decide) _ rfl,q 1 (by decide) _ rfl,q 2 (by decide) _ rfl,q 3 (by decide) _ rfl,q 4 (by decide) _ rfl,q 5 (by decide) _ rfl,q 6 (by decide) _ rfl⟩
def There(cy:Δ bU)(s:Γ):Prop:=∃i,wP cy s=σ i
theorem Py{w:ω}{cv:υ}{ns:Δ cz}(hc:eK w cv cy)(uq:Λ cy<=10000)(M:Kz w ns st nv ev mv dv)(an:Λ st.bJ<=10000/\(Λ st.eY)<=10000)(a1:Small cy)(a2:∀c∈st.eY,c.aI.1.size<=1000000000):Calls prog 124 #[cv,.agg (oB st nv ev mv dv)] w λaa w'=>V2 w w' aa cv λj=>Λ j=Λ st.bJ+Λ st.eY/\(∀m∈st.bJ,There cy m.1)/\(∀c∈st.eY,c.fq=true\/There cy c.ov.1)/\Small j:=by
 have⟨W,hW⟩:=nm (w.alloc (ξ (oB st nv ev mv dv) 95));have u:=(zF.start w).new (oB st nv ev mv dv) 95;rw[<- hW]at u;have HW:=ak hW;have HC:=(hc.aU u.lo (ae _));obtain⟨ca,cc,rfl⟩:=hc.slice;obtain⟨na,nc,rfl⟩:=aS.slice M.bJ;obtain⟨ks,-,j6,-⟩:=M.fG;obtain⟨ea,ec,rfl⟩:=aS.slice j6;obtain⟨ya,yc,rfl⟩:=aS.slice M.eY;obtain⟨da,dc,rfl⟩:=aS.slice M.down;have HN:=(aS.aU M.bJ u.lo (ae _));have HY:=(aS.aU M.eY u.lo (ae _));obtain⟨Dk,-,a9,-⟩:=M.len;have lj:=ak (λwr (hb:δ W.heap.size W wr)=>(u.call hb).box (i:=0) rfl);clear hc M hW j6;unfold oB at HW lj;unfold oB;go_in;go_wp2;rw[<- HW.J];have⟨a5,a6⟩:=an;clear an;go_loopw[7,8] (λv j wr=>∃(e:Nat) (L:Δ bU),e<=Λ st.bJ/\j=ι κ e/\Hid (Λ L=e/\(∀m∈st.bJ.take e,There cy m.1)/\Small L)/\Hid (ug W.heap.size 152 2 fP wr v L)/\Hid (δ W.heap.size W wr)) (λ_ j _=>Λ st.bJ - (intOf j).toNat);case atStart=>exact⟨0,[],aB _,rfl,ak ⟨rfl,by simp,λx C=>by cases C⟩,ak (ug.nil _ _ _ _ _),ak (aj _ _)⟩
 case round=>
  obtain⟨e,L,hi,rfl,l,E,r⟩:=hrel;have X:=E.J;obtain⟨O,P,rfl⟩:=X.slice;clear X;obtain⟨d,oY,-⟩:=lj.J wr r.J;have q4:Ξ wr (Ad w.heap.size 4)=σ (ψ na (Λ st.bJ) nc):=bB d 4;clear d;by_cases T:e<Λ st.bJ
  .have gY:=aX.2 T;have⟨m,R⟩:=l9 T;have⟨U,ad,cp,D,c0,c1⟩:=(show rB wr _ _ from aS.aU HN r.J (ae _)).get R;cases D;have ur:=ak (pQ cy _ m.1 wr (HC.aU r.J (ae _)) (by omega));clear c1;go_wp21;refine ur.J.mono ?_;rintro aa y ⟨rfl,G⟩;have p:=ak (r.J.trans (G.mono r.J.size));have Q:=ak (E.J.aU G);obtain⟨d,KB,-⟩:=lj.J y p.J;have r4:Ξ y (Ad w.heap.size 4)=σ (ψ (σ (Ad U ad)) (Λ st.bJ) nc):=bB d 4;have⟨g',d',aT,D,ax,aC⟩:=(show rB y _ _ from aS.aU HN p.J (ae _)).get R;cases D;have V3:=(A6 st.bJ _ e m y (aS.aU HN p.J (ae _)) R Dk);clear G d c0 q4;cases gW:wP cy m.1 with
   |none=>rw[show mI cy m.1=-1 by unfold mI;rw[gW]];clear gW;go_wp2;go_quiet(fail);go_wp2;go_ret3;exact⟨_,5,m.2,rfl,⟨_,_,_,rfl⟩,λC=>(by cases C),below_drewN (u.call p.J).lo _⟩
   |some a=>
    rw[show mI cy m.1=(a:Int)by unfold mI;rw[gW]];have ar:Hid (There cy m.1):=ak ⟨a,gW⟩;have tU:=(aR.1 (show cy.findIdx? (λj=>ct j.1 m.1)=σ a from gW)).1;have av:(a:Int)<Λ cy:=(by omega);clear gW;go_wp21;refine V3.mono ?_;rintro aa g ⟨rfl,H⟩;have i:=ak (p.J.trans (H.mono p.J.size));have n:=ak (Q.J.aU H);obtain⟨d,a7,-⟩:=lj.J g i.J;have s4:Ξ g (Ad w.heap.size 4)=σ (ψ (σ (Ad U ad)) (Λ st.bJ) nc):=bB d 4;have⟨g',d',aT,D,e0,e1⟩:=(show rB g _ _ from aS.aU HN i.J (ae _)).get R;cases D;have⟨g2,d2,a0,D,x0,x1⟩:=(HC.aU i.J (ae _)).get (af tU);cases D;have⟨j,ag⟩:=nm cy[a];have Dm:=(show j.1.size<=1000000000 from ag ▸ a1 _ (ej tU));rw[<- ag]at x0 x1;have⟨t,ht⟩:=nm ((st.bJ.take e).any λc=>ct c.1 m.1);rw[<- ht];clear H d ax aC r4 ht ag;cases t
    .have⟨Y,px,lB,ll,Z⟩:=gq Tryz.yi
     have z:=ak (n.J.asks (arr:=#[θ j.1,ι κ j.2]) i.J.size (by rw[l.J.1];omega));have ab:Hid ((L++[j]).length=e+1/\(∀m∈st.bJ.take (e+1),There cy m.1)/\Small (L++[j])):=ak ⟨by rw[au,l.J.1];rfl,λx s=>by
      rw[bS,R]at s;rcases bA.1 s with s|s
      . exact l.J.2.1 x s
      . cases bj.1 s;exact ar.J,l.J.2.2.snoc Dm⟩
     go_wp2_with(at_builtin;refine ef _ rfl _ _ 139 rfl W.heap.size 152 Y _ 2 24 underlying139 px lB ll Z rfl (by decide) (ψ O (Λ L) P) (Λ L) (L.flatMap fP) rfl z.J.1 (Ad g.heap.size 0) 1 1 (fP j) rfl rfl z.J.2.1 (by simp[fP,Value.oneCell']) z.J.2.2.1 (z.J.2.2.2.1 24 (by decide)) z.J.2.2.2.2 ?_);intro v3 w3 I K V;have F:=ak (n.J.push i.J i.J.size I K);clear I K V;go_wp2;exact⟨⟨e+1,_,by omega,by go_num,ab,ak F.J.1,ak F.J.2⟩,by simp[intOf];omega⟩
    go_wp2;go_quiet(fail);go_wp2;go_ret3;exact⟨_,6,m.2,rfl,⟨_,_,_,rfl⟩,λC=>(by cases C),below_drewN (u.call i.J).lo _⟩
  obtain rfl:e=Λ st.bJ:=by omega
  rw[eF]at l;go_wp2;go_loopw[7,10] (λv j wr=>∃(e:Nat) (L:Δ bU),e<=Λ st.eY/\j=ι κ e/\Hid (Λ L=Λ st.bJ+e/\(∀c∈st.eY.take e,c.fq=true\/There cy c.ov.1)/\Small L)/\Hid (ug W.heap.size 152 2 fP wr v L)/\Hid (δ W.heap.size W wr)) (λ_ j _=>Λ st.eY - (intOf j).toNat);case atStart=>exact⟨0,L,aB _,rfl,ak ⟨l.J.1,by simp,l.J.2.2⟩,E,r⟩
  case round=>
   have ap:=l.J.2.1;clear E r l q4;obtain⟨e,L,hi,rfl,l,E,r⟩:=hrel;have X:=E.J;obtain⟨O,P,rfl⟩:=X.slice;obtain⟨d,oY,-⟩:=lj.J wr r.J;have a4:Ξ wr (Ad w.heap.size 11)=σ (ψ ya (Λ st.eY) yc):=bB d 11;clear d X;by_cases T:e<Λ st.eY
   .have gY:=aX.2 T;have⟨c,wC⟩:=l9 T;have⟨U,ad,cp,D,tF,y0,y1,y2,y3,y4,y5,y6⟩:=E4 (aS.aU HY r.J (ae _)) wC;cases D;have⟨al,hX⟩:=nm (wr.alloc (ξ #[θ c.aI.1,ι κ c.aI.2,θ c.fn,ι κ c.pl,θ c.ov.1,ι κ c.ov.2,.bool c.fq] 191));have V4:=Br hX;have am:al.heap[wr.heap.size]?=σ (ξ #[θ c.aI.1,ι κ c.aI.2,θ c.fn,ι κ c.pl,θ c.ov.1,ι κ c.ov.2,.bool c.fq] 191 (0,0)):=(by rw[hX];exact az wr _)
    have td:=(r.J.trans (V4.mono r.J.size));have ai:=(E.J.aU V4);have ur:=ak (pQ L _ c.aI.1 al ai.row (by have:=l.J.1;omega));clear V4;go_wp21;rw[<- hX];refine ur.J.mono ?_;rintro aa y ⟨rfl,G⟩;have p:=ak (td.trans (G.mono td.size));have Q:=ak (ai.aU G);have d:=(G.block _ (aA am)).trans am;have m0:Ξ y (Ad wr.heap.size 0)=σ (θ c.aI.1):=bB d 0;have m1:Ξ y (Ad wr.heap.size 1)=σ (ι κ c.aI.2):=bB d 1;have m4:Ξ y (Ad wr.heap.size 4)=σ (θ c.ov.1):=bB d 4;have m6:Ξ y (Ad wr.heap.size 6)=σ (.bool c.fq):=bB d 6;have Gt:=aA d;clear G y0 y1 y2 y3 y4 y5 y6 a4;have A:=(λ(g:ω) (k:Nat) (BT:ug W.heap.size 152 2 fP g (ψ O (Λ L) P) L) (CB:δ W.heap.size W g)=>BT.asks (arr:=#[θ c.aI.1,ι κ k]) CB.size (by have:=l.J.1;omega));have ab:Hid (c.fq=true\/There cy c.ov.1->∀k:Nat,(L++[(c.aI.1,k)]).length=Λ st.bJ+(e+1)/\(∀c∈st.eY.take (e+1),c.fq=true\/There cy c.ov.1)/\Small (L++[(c.aI.1,k)])):=ak (λht k=>⟨by rw[au,l.J.1];rfl,λx s=>by
     rw[bS,wC]at s;rcases bA.1 s with s|s
     . exact l.J.2.1 x s
     . cases bj.1 s;exact ht,l.J.2.2.snoc (a2 c (aq wC))⟩)
    have⟨Y,px,lB,ll,Z⟩:=gq Tryz.yi;cases gW:wP L c.aI.1 with
    |some a3=>rw[show mI L c.aI.1=(a3:Int)by unfold mI;rw[gW]];clear gW;go_wp2;go_quiet(fail);go_wp2;go_ret3;exact⟨_,6,c.aI.2,rfl,⟨_,_,_,rfl⟩,λC=>(by cases C),below_drewN (u.call p.J).lo _⟩
    |none=>
     rw[show mI L c.aI.1=-1 by unfold mI;rw[gW]];clear gW;cases hbr:c.fq with
     |true=>rw[hbr]at m6;have z:=ak (A y 0 Q.J p.J);have ac:=ak (ab.J (.inl hbr) 0);clear hbr;go_wp2_with(at_builtin;refine ef _ rfl _ _ 139 rfl W.heap.size 152 Y _ 2 24 underlying139 px lB ll Z rfl (by decide) (ψ O (Λ L) P) (Λ L) (L.flatMap fP) rfl z.J.1 (Ad y.heap.size 0) 1 1 (fP (c.aI.1,0)) rfl rfl z.J.2.1 (by simp[fP,Value.oneCell']) z.J.2.2.1 (z.J.2.2.2.1 24 (by decide)) z.J.2.2.2.2 ?_);intro v3 w3 I K V;have F:=ak (Q.J.push p.J p.J.size I K);clear I K V;go_wp2;exact⟨⟨e+1,_,by omega,by go_num,ac,ak F.J.1,ak F.J.2⟩,by simp[intOf];omega⟩
     |false=>
      rw[hbr]at m6;have ao:=(pQ cy _ c.ov.1 y (HC.aU p.J (ae _)) (by omega));clear hbr;go_wp21;refine ao.mono ?_;rintro aa g ⟨rfl,H⟩;have i:=ak (p.J.trans (H.mono p.J.size));have n:=ak (Q.J.aU H);have d:=(H.block _ (aA d)).trans d;have l0:Ξ g (Ad wr.heap.size 0)=σ (θ c.aI.1):=bB d 0;have l2:Ξ g (Ad wr.heap.size 2)=σ (θ c.fn):=bB d 2;have l3:Ξ g (Ad wr.heap.size 3)=σ (ι κ c.pl):=bB d 3;have l5:Ξ g (Ad wr.heap.size 5)=σ (ι κ c.ov.2):=bB d 5;have a8:=aA d;clear H m0 m1 m4 m6;cases gW:wP cy c.ov.1 with
      |none=>rw[show mI cy c.ov.1=-1 by unfold mI;rw[gW]];clear gW;go_wp2;go_quiet(fail);go_wp2;go_ret3;exact⟨_,5,c.ov.2,rfl,⟨_,_,_,rfl⟩,λC=>(by cases C),below_drewN (u.call i.J).lo _⟩
      |some a=>
       rw[show mI cy c.ov.1=(a:Int)by unfold mI;rw[gW]];have ac:=ak (ab.J (.inr ⟨a,gW⟩));have tU:=(aR.1 (show cy.findIdx? (λj=>ct j.1 c.ov.1)=σ a from gW)).1;have av:(a:Int)<Λ cy:=(by omega);have⟨g2,d2,a0,D,x0,x1⟩:=(HC.aU i.J (ae _)).get (af tU);cases D;have⟨N,V5⟩:=nm cy[a].2;rw[<- V5]at x1;clear gW V5 x0;cases atF:(c.fn.toList==[115,117,109]);(case' true=>cases hz:((N:Int) != 0));(case' true.true=>go_wp2;go_quiet(fail);go_wp2;go_ret3;exact⟨_,7,c.pl,rfl,⟨_,_,_,rfl⟩,λC=>(by cases C),below_drewN (u.call i.J).lo _⟩);all_goals
        cases hmn:(c.fn.toList==[109,105,110]);(case' false=>cases DH:(c.fn.toList==[109,97,120]));all_goals
         go_wp2_with(at_builtin;first
          |refine ef _ rfl _ _ 139 rfl W.heap.size 152 Y _ 2 24 underlying139 px lB ll Z rfl (by decide) (ψ O (Λ L) P) (Λ L) (L.flatMap fP) rfl (A g 0 n.J i.J).1 (Ad g.heap.size 0) 1 1 (fP (c.aI.1,0)) rfl rfl (A g 0 n.J i.J).2.1 (by simp[fP,Value.oneCell']) (A g 0 n.J i.J).2.2.1 ((A g 0 n.J i.J).2.2.2.1 24 (by decide)) (A g 0 n.J i.J).2.2.2.2 ?_
          |refine ef _ rfl _ _ 139 rfl W.heap.size 152 Y _ 2 24 underlying139 px lB ll Z rfl (by decide) (ψ O (Λ L) P) (Λ L) (L.flatMap fP) rfl (A g N n.J i.J).1 (Ad g.heap.size 0) 1 1 (fP (c.aI.1,N)) rfl rfl (A g N n.J i.J).2.1 (by simp[fP,Value.oneCell']) (A g N n.J i.J).2.2.1 ((A g N n.J i.J).2.2.2.1 24 (by decide)) (A g N n.J i.J).2.2.2.2 ?_)
         intro v3 w3 I K V;have F:=ak (n.J.push i.J i.J.size I K);clear I K V;go_wp2;exact⟨⟨e+1,_,by omega,by go_num,ak (ac.J _),ak F.J.1,ak F.J.2⟩,by simp[intOf];omega⟩
   obtain rfl:e=Λ st.eY:=(by omega);rw[eF]at l;go_wp2;go_ret3;exact⟨_,0,0,rfl,⟨_,_,_,rfl⟩,λ_=>⟨L,E.J.row,⟨l.J.1,ap,l.J.2⟩,.inr λU hg=>ay u.lo.size (gR E.J U hg).1⟩,(u.call r.J).lo⟩
end
section
variable {nv ev mv dv:υ} {cy more:Δ bU} {st:dz}
theorem Px{w:ω}{cv:υ}{ns:Δ cz}(Y:eK w cv cy)(hm:eK w m more)(uq:Λ cy<=10000)(Gt:Λ more<=10000)(C:Kz w ns st nv ev mv dv):Calls prog 123 #[cv,m,.agg (oB st nv ev mv dv)] w λO w'=>V2 w w' O cv λc=>c=cy++more/\(∃d,wP cy st.left.1=σ d)/\∃aa,wP more st.right.1=σ aa:=by
 have⟨W,X⟩:=nm (w.alloc (ξ (oB st nv ev mv dv) 95));have p:=(zF.start w).new (oB st nv ev mv dv) 95;rw[<- X]at p;have HW:=ak X;have F:=(Y.aU p.lo (ae _));have H:=(hm.aU p.lo (ae _));obtain⟨ca,cc,rfl⟩:=Y.slice;obtain⟨ma,mc,rfl⟩:=hm.slice;obtain⟨na,nc,rfl⟩:=aS.slice C.bJ;obtain⟨ks,-,j6,-⟩:=C.fG;obtain⟨ea,ec,rfl⟩:=aS.slice j6;obtain⟨ya,yc,rfl⟩:=aS.slice C.eY;obtain⟨da,dc,rfl⟩:=aS.slice C.down;have D:=ak (λwr (hb:δ W.heap.size W wr)=>(p.call hb).box (i:=0) rfl);clear Y hm C X j6;unfold oB at HW D;unfold oB;go_in;go_wp2;rw[<- HW.J];go_loopw[9,10] (λv c wr=>∃(d:Nat) (L:Δ bU),d<=Λ cy/\c=ι κ d/\Hid (L=cy.take d)/\Hid (ug W.heap.size 152 2 fP wr v L)/\Hid (δ W.heap.size W wr)) (λ_ c _=>Λ cy - (intOf c).toNat);case atStart=>exact⟨0,[],aB _,rfl,ak rfl,ak (ug.nil _ _ _ _ _),ak (aj _ _)⟩
 case round=>obtain⟨d,L,hi,rfl,u,n,e⟩:=hrel;have Z:=n.J;obtain⟨oa,oc,rfl⟩:=Z.slice;by_cases A:d<Λ cy;{have gY:=aX.2 A;have⟨c,E⟩:=l9 A;have⟨N,ab,cp,j,c0,c1⟩:=(F.aU e.J (ae _)).get E;cases j;have ur:=(pQ more _ c.1 wr (H.aU e.J (ae _)) (by omega));have I:=ak E;go_wp21;refine ur.mono ?_;rintro O s ⟨rfl,z⟩;have i:=ak (e.J.trans (z.mono e.J.size));obtain⟨l,oY,-⟩:=D.J s i.J;have q3:Ξ s (Ad w.heap.size 3)=σ (ι κ st.tj.2):=bB l 3;have G:=ak (n.J.aU z);have⟨g',d',ad,j,an,ao⟩:=(F.aU i.J (ae _)).get I.J;cases j;cases gW:wP more c.1 with|some aa=>(rw[show mI more c.1=(aa:Int)by unfold mI;rw[gW]];go_wp2;go_quiet(fail);go_wp2;go_ret3;exact⟨_,6,st.tj.2,rfl,⟨_,_,_,rfl⟩,λr=>(by cases r),below_drewN (p.call i.J).lo _⟩)|none=>rw[show mI more c.1=-1 by unfold mI;rw[gW]];have T:Hid (Λ L=d):=ak (by rw[u.J,bZ];omega);have⟨i0,px,lB,ll,kV⟩:=gq Tryz.yi;have g:=ak (G.J.asks (arr:=#[θ c.1,ι κ c.2]) i.J.size (by rw[T.J];omega));go_wp2_with(at_builtin;refine ef _ rfl _ _ 139 rfl W.heap.size 152 i0 _ 2 24 underlying139 px lB ll kV rfl (by decide) (ψ oa (Λ L) oc) (Λ L) (L.flatMap fP) rfl g.J.1 (Ad s.heap.size 0) 1 1 (fP c) rfl rfl g.J.2.1 (by simp[fP,Value.oneCell']) g.J.2.2.1 (g.J.2.2.2.1 24 (by decide)) g.J.2.2.2.2 ?_);intro v3 w3 U V h4;have hp:=G.J.push i.J i.J.size U V;have y:=ak hp;have Q:Hid (L++[c]=cy.take (d+1)):=ak (by rw[u.J,bS,I.J];rfl);go_wp2;exact⟨⟨d+1,_,by omega,by go_num,Q,ak y.J.1,ak y.J.2⟩,by simp[intOf];omega⟩};obtain rfl:d=Λ cy:=(by omega);have R:Hid (L=cy):=ak (by rw[u.J,eF]);go_wp2;go_loopw[9,11] (λv c wr=>∃(d:Nat) (L:Δ bU),d<=Λ more/\c=ι κ d/\Hid (L=cy++more.take d)/\Hid (ug W.heap.size 152 2 fP wr v L)/\Hid (δ W.heap.size W wr)) (λ_ c _=>Λ more - (intOf c).toNat);(case atStart=>exact⟨0,L,aB _,rfl,ak (by rw[R.J,mC,cM]),n,e⟩);case round=>obtain⟨d,L,hi,rfl,u,n,e⟩:=hrel;have Z:=n.J;obtain⟨oa,oc,rfl⟩:=Z.slice;by_cases A:d<Λ more;{have gY:=aX.2 A;have⟨c,E⟩:=l9 A;have⟨N,ab,cp,j,c0,c1⟩:=(H.aU e.J (ae _)).get E;cases j;have T:Hid (Λ L<=20000):=ak (by rw[u.J,au,bZ];omega);have I:=ak E;have⟨i0,px,lB,ll,kV⟩:=gq Tryz.yi;have g:=ak (n.J.asks (arr:=#[θ c.1,ι κ c.2]) e.J.size (by have:=T.J;omega));have Q:Hid (L++[c]=cy++more.take (d+1)):=ak (by rw[u.J,cC,bS,I.J];rfl);go_wp2_with(at_builtin;refine ef _ rfl _ _ 139 rfl W.heap.size 152 i0 _ 2 24 underlying139 px lB ll kV rfl (by decide) (ψ oa (Λ L) oc) (Λ L) (L.flatMap fP) rfl g.J.1 (Ad wr.heap.size 0) 1 1 (fP c) rfl rfl g.J.2.1 (by simp[fP,Value.oneCell']) g.J.2.2.1 (g.J.2.2.2.1 24 (by decide)) g.J.2.2.2.2 ?_);intro v3 w3 U V h4;have hp:=n.J.push e.J e.J.size U V;have y:=ak hp;go_wp2;exact⟨⟨d+1,_,by omega,by go_num,Q,ak y.J.1,ak y.J.2⟩,by simp[intOf];omega⟩};have R:Hid (L=cy++more):=ak (by rw[u.J,aQ (by omega)]);have HA:=(pQ cy _ st.left.1 wr (F.aU e.J (ae _)) (by omega));obtain⟨l,oY,-⟩:=D.J wr e.J;have q6:Ξ wr (Ad w.heap.size 6)=σ (θ st.left.1):=bB l 6;go_wp21;refine HA.mono ?_;rintro O s ⟨rfl,z⟩;have i:=ak (e.J.trans (z.mono e.J.size));have G:=ak (n.J.aU z);have ac:=(pQ more _ st.right.1 s (H.aU i.J (ae _)) (by omega));obtain⟨l,KB,-⟩:=D.J s i.J;have q8:Ξ s (Ad w.heap.size 8)=σ (θ st.right.1):=bB l 8;go_wp21;refine ac.mono ?_;rintro O P ⟨rfl,cW⟩;have M:=(i.J.trans (cW.mono i.J.size));have DG:=(G.J.aU cW);obtain⟨l,al,-⟩:=D.J P M;have q7:Ξ P (Ad w.heap.size 7)=σ (ι κ st.left.2):=bB l 7;have q9:Ξ P (Ad w.heap.size 9)=σ (ι κ st.right.2):=bB l 9;have ap:Ξ P (Ad w.heap.size 10)=σ (ι κ st.eq):=bB l 10;have K:=(p.call M).lo;cases gW:wP cy st.left.1 with|none=>(rw[show mI cy st.left.1=-1 by unfold mI;rw[gW]];go_wp2;go_quiet(fail);go_wp2;go_ret3;exact⟨_,5,st.left.2,rfl,⟨_,_,_,rfl⟩,λr=>(by cases r),below_drewN K _⟩)|some a=>rw[show mI cy st.left.1=(a:Int)by unfold mI;rw[gW]];have tU:=(aR.1 (show cy.findIdx? (λc=>ct c.1 st.left.1)=σ a from gW)).1;cases hbt:wP more st.right.1 with|none=>(rw[show mI more st.right.1=-1 by unfold mI;rw[hbt]];go_wp2;go_quiet(fail);go_wp2;go_ret3;exact⟨_,5,st.right.2,rfl,⟨_,_,_,rfl⟩,λr=>(by cases r),below_drewN K _⟩)|some b=>rw[show mI more st.right.1=(b:Int)by unfold mI;rw[hbt]];have mo:=(aR.1 (show more.findIdx? (λc=>ct c.1 st.right.1)=σ b from hbt)).1;have am:(a:Int)<Λ cy:=(by omega);have ai:(b:Int)<Λ more:=(by omega);have⟨N,ab,cp,j,x0,x1⟩:=(F.aU M (ae _)).get (af tU);cases j;have⟨g',d',ad,j,y0,y1⟩:=(H.aU M (ae _)).get (af mo);cases j;have⟨ka,ag⟩:=nm cy[a].2;have⟨kb,OI⟩:=nm more[b].2;rw[<- ag]at x1;rw[<- OI]at y1;have jK:((ka:Int) != (kb:Int))=false\/((ka:Int) != (kb:Int))=true:=(by cases((ka:Int) != (kb:Int))<;>simp);rcases jK with jK|jK;(all_goals go_wp2;go_quiet(fail);go_wp2;(try(go_quiet(fail);go_wp2_with fail));go_ret3);{exact⟨_,0,0,rfl,⟨_,_,_,rfl⟩,λ_=>⟨L,aS.aU DG.row (below_drewN (aj _ _) _) (ae _),⟨R.J,⟨a,gW⟩,⟨b,hbt⟩⟩,.inr λN hg=>ay p.lo.size (gR DG N hg).1⟩,below_drewN K _⟩};exact⟨_,7,st.eq,rfl,⟨_,_,_,rfl⟩,λr=>(by cases r),below_drewN (below_drewN K _) _⟩
end
