import Derived.Test.YtfeckmaleonjjaaGreatDoorFCB
set_option maxHeartbeats 0
set_option maxRecDepth 100000
namespace Go.Proofs.YtfeckmaleonjjaaGreatDoor
open Go.World renaming cell?→Ξ
open Go.Value renaming ownBlock→Ω
open List renaming length→Λ
open Go.RowKit
open _root_.Go.Proofs.Tryz
open Option renaming some→σ,none→ν
open Go.IntKind renaming i64→κ
open Go.Ending renaming returned→τ
open Go.Obj renaming cells→ξ
open Go renaming World→ω,Value→υ
open Go.Value renaming int→ι,string→θ,slice→ψ,pointer→π
variable{n f j P:Nat}{l:υ}{i:Nat->Prop}{r:Δ Γ}{u:Option Nat}{d:Int}
def aD.cZ:aD->Prop
 |.live _ _=>True
 |.dead _ _=>False
def aD.due:aD->Nat
 |.live _ _=>0
 |.dead _ _=>1
theorem Wp{x:gN}{m:aD}(r:zU x m){o:Γ}(d:m.is o=true):x.tt=o/\x.tp=m.cE/\m.cZ/\(∀t f,m=.live t f->t.k.ends=false)/\m.aK.len+1=m.len:=by cases m with|dead e b=>simp[aD.is,aD.tk]at d|live t f=>have j:=G5 d;obtain⟨B,i,u,A,_⟩:=r;obtain⟨k,C⟩:=t;have n:=A j;refine⟨?_,u,trivial,λt f e=>by cases e;exact j,?_⟩;{cases k<;>simp[aD.is,aD.tk,cD]at d<;>simp only[oM]at i;{exact i.2.1.trans d};exact i.2.trans d};have l:=Dt x.S x.pos;rw[<- n]at l;cases f with|nil=>exact absurd rfl l|cons D E=>rfl
theorem dX{m:aD}:m.aK.len<=m.len:=by cases m with|dead e b=>exact ae _|live t d=>cases d<;>simp[aD.aK,aD.len]
theorem qi{m:aD}(d:¬m.cZ):m.len=0/\m.due=1:=by cases m with|dead e b=>exact⟨rfl,rfl⟩|live t f=>exact absurd trivial d
theorem tI{m:aD}(d:m.cZ):m.due=0:=by cases m with|dead e b=>exact d.elim|live t f=>rfl
theorem wD(m:aD):m.due<=1:=by cases m<;>simp[aD.due]
theorem ez(m:aD)(e:Nat):¬(m.cQ e).cZ:=by cases m<;>exactλd=>d
def lenOf:υ->Nat|.slice _ m _=>m|_=>0
theorem Io{d:aD->Ex×aD}{e:Ex}{m:aD}{i:Ex×aD}{o:Γ}(f:nh d r (n+1) e m=i)(j:r.find? (λo=>m.is o)=σ o) :
 nh d r n (.two o m.cE e (d m.aK).1) (d m.aK).2=i:=by rw[nh,j]at f;exact f
theorem Ip{f:aD->Ex×aD}{e:Ex}{m:aD}(d:r.find? (λo=>m.is o)=ν):nh f r n e m=(e,m):=by cases n with|zero=>rfl|succ n=>rw[nh,d]
def rG(n:Nm):Δ υ:=[θ n.1,ι κ n.2]
def iA(l:Δ Nm):Δ υ:=l.flatMap rG
theorem PV(d:Δ Nm)(f:Nm):iA (d++[f])=iA d++rG f:=by simp[iA]
theorem eQ(m:aD):m.aI.2.len<=m.len:=by unfold aD.aI;split;{exact dX};rw[(qi (ez m 2)).1];omega
theorem sG{d:Type}{one:aD->d×aD}{i:Δ d}{m:aD}{j:Δ d×aD}(f:lF one (n+1) i m=j)(l:m.is qA=true):lF one n (i++[(one m.aK).1]) (one m.aK).2=j:=by rw[lF,aN l]at f;exact f
theorem qR{f:Type}{one:aD->f×aD}{d:Δ f}{m:aD}(i:m.is qA=false):lF one n d m=(d,m):=by cases n with|zero=>rfl|succ n=>rw[lF,aH (by rw[i];decide)]
theorem jz.more{l:Nat->Prop}{w:ω}{p:Nat}{x:gN}{m:aD}{ns:Δ cz}(d:jz i w p x m ns)(u:l 0)(n:∀k,l k->i k\/(k≠p/\(Ω x.gp)≠σ k/\k<w.heap.size)):jz l w p x m ns:=
 ⟨d.pen,d.laid,d.p0,d.DC,d.pos,d.tk,d.tn,d.tp,d.mode,d.own,d.apart,u,
  λj=>by rcases n p j with f|f;exact d.kp f;exact f.1 rfl,
  λg r j=>by rcases n g j with f|f;exact d.kv g r f;exact f.2.1 r,
  λk j=>by rcases n k j with f|f;exact d.old k f;exact f.2.2⟩
theorem take_len(m:aD)(s:Γ):(m.take s).len<=m.len:=by unfold aD.take;split;{exact dX};rw[(qi (ez m 2)).1];omega
def Oth(p:Nat)(v:υ)(w:ω)(k:Nat):Prop:=k<w.heap.size/\k≠p/\(Ω v)≠σ k
structure Fq (p:Nat)(v v':υ)(w w':ω):Prop where
 keeps:bu (Oth p v w) w w'
 own:∀g,Ω v'=σ g->Ω v=σ g\/w.heap.size<=g
structure Rd (o:ω×υ)(w:ω)(p:Nat)(c:gN)(v:υ)(m:aD)(ns:Δ cz):Prop where
 ex:∃x,jz (Oth p v w) w p x m ns/\Rest c x/\x.gp=v
 fr:Fq p o.2 v o.1 w
 lo:p<o.1.heap.size
section
variable {o:ω×υ} {w w' w'':ω} {p:Nat} {c c' x x':gN} {v v' v'':υ} {m m':aD} {ns nN:Δ cz}
theorem Fq.trans(a:Fq p v v' w w')(b:Fq p v' v'' w' w''):Fq p v v'' w w'':=
 ⟨a.keeps.trans (b.keeps.mono λk d=>⟨aw d.1 a.keeps.size,d.2.1,λe=>(a.own k e).elim d.2.2 (by have:=d.1;omega)⟩),λg e=>(b.own g e).elim (a.own g) λf=>.inr (ay a.keeps.size f)⟩
theorem Fq.refl(p:Nat)(v:υ)(w:ω):Fq p v v w w:=⟨bu.refl _ _,λ_ e=>.inl e⟩
theorem Fq.aU(d:Below w.heap.size w w'):Fq p v v w w':=⟨⟨d.os,d.tape,d.output,d.size,λk f=>d.block k f.1⟩,λ_ e=>.inl e⟩
theorem Rd.step(f:Rd o w p c v m ns)(n:Rest c' x')(q:jz (Oth p v w) w' p x' m' nN)(k:bu (Oth p v w) w w'):Rd o w' p c' x'.gp m' nN/\Fq p v x'.gp w w':=by
 have fr:Fq p v x'.gp w w':=⟨k,λg e=>by
  by_cases j:w.heap.size<=g
  . exact .inr j
  . exact .inl (fF λl=>q.kv g e ⟨by omega,λi=>q.apart (i ▸ e),l⟩)⟩
 have r:=q.pen.lt;have u:=q.p0;exact⟨⟨⟨x',q.more ⟨by omega,by omega,λe=>q.kv 0 e q.k0⟩ (λk d=>.inr ⟨d.2.1,d.2.2,d.1⟩),n,rfl⟩,f.fr.trans fr,f.lo⟩,fr⟩
theorem Rd.is(d:Rd o w p c v m ns)(t:Γ):Calls prog 33 #[π (σ (Ad p 0)),θ t] w λf w'=>f=τ (.bool (m.is t))/\w=w':=by obtain⟨x,q,_⟩:=d.ex;exact ahD q t
theorem Rd.aK(d:Rd o w p c v m ns)(i:∀t r,m=.live t r->t.k.ends=false):Calls prog 17 #[π (σ (Ad p 0))] w λf w'=>
 f=τ (.tuple #[])/\Rd o w' p c v m.aK ns/\Fq p v v w w':=by obtain⟨x,q,j,rfl⟩:=d.ex;refine(G3 q i).mono ?_;rintro f w' ⟨rfl,x',l,n,e,k⟩;exact⟨rfl,e ▸ d.step (j.trans n) l k⟩
theorem Rd.fail(d:Rd o w p c v m ns)(e b:Nat)(l:e≠0)(j:Hid (m.cZ->b=m.cE)):Calls prog 19 #[π (σ (Ad p 0)),ι κ e,ι κ b] w λf w'=>
 f=τ (.tuple #[])/\Rd o w' p c v (m.cQ e) ns/\Fq p v v w w':=by obtain⟨x,q,n,rfl⟩:=d.ex;refine(G4 q e b l).mono ?_;rintro f w' ⟨rfl,x',u,A,i,k⟩;have r:m.cQ e=m.fail e b:=(by cases m with|dead _ _=>rfl|live t B=>rw[j.J trivial];rfl);rw[r];exact⟨rfl,i ▸ d.step (n.trans A) u k⟩
theorem PW(q:zU x m)(d:m.cZ):x.tp=m.cE:=by cases m with|dead _ _=>exact d.elim|live t f=>exact q.2.2.1
theorem Rd.take(f:Rd o w p c v m ns)(t:Γ):Calls prog 38 #[π (σ (Ad p 0)),θ t] w λj w'=>
 ∃i:Nat,j=τ (ι κ i)/\Rd o w' p c v (m.take t) ns/\Fq p v v w w'/\Hid (m.cZ->i=m.cE):=by obtain⟨x,q,n,rfl⟩:=f.ex;refine(afh q t).mono ?_;rintro j w' ⟨rfl,x',r,u,l,k⟩;have d:=f.step (n.trans u) r k;rw[l]at d;exact⟨_,rfl,d.1,d.2,ak (PW q.mode)⟩
theorem Rd.aI(d:Rd o w p c v m ns):Calls prog 35 #[π (σ (Ad p 0))] w λf w'=>
 f=τ (.agg #[θ m.aI.1.1,ι κ m.aI.1.2])/\Rd o w' p c v m.aI.2 ns/\Fq p v v w w':=by obtain⟨x,q,j,rfl⟩:=d.ex;refine(afT q).mono ?_;rintro f w' ⟨rfl,x',l,n,i,k⟩;exact⟨rfl,i ▸ d.step (j.trans n) l k⟩
theorem Rd.node(d:Rd o w p c v m ns)(y:cz)(i:Λ ns<=1000):Calls prog 121 #[π (σ (Ad p 0)),abg y] w λf w'=>
 ∃v',f=τ (ι κ (Λ ns))/\Rd o w' p c v' m (ns++[y])/\Fq p v v' w w':=by obtain⟨x,q,j,rfl⟩:=d.ex;refine(V0 q y i).mono ?_;rintro f w' ⟨rfl,x',l,n,k⟩;exact⟨_,rfl,d.step (j.trans n) l k⟩
theorem Rd.two(d:Rd o w p c v m ns)(op:Γ)(pl a b:Nat){f:cz}(j:ns[a]?=σ f)(l:Λ ns<=1000):Calls prog 84 #[π (σ (Ad p 0)),θ op,ι κ pl,ι κ a,ι κ b] w λi w'=>
 ∃v',i=τ (ι κ (Λ ns))/\Rd o w' p c v' m (ns++[⟨op,pl,f.first,a,b,0,⟨#[]⟩⟩])/\Fq p v v' w w':=by obtain⟨x,q,n,rfl⟩:=d.ex;refine(ajj q op pl a b _ j l).mono ?_;rintro i w' ⟨rfl,x',r,u,k⟩;exact⟨_,rfl,d.step (n.trans u) r k⟩
theorem Rd.PY(d:Rd o w p c v m ns)(l:c.deep=8):Calls prog 166 #[π (σ (Ad p 0))] w λi w'=>
 i=τ (.bool false)/\Rd o w' p c v (m.cQ 3) ns/\Fq p v v w w':=by obtain⟨x,q,f,rfl⟩:=d.ex;refine(Pj q (f.deep.trans l)).mono ?_;rintro i w' ⟨rfl,x',n,r,j,k⟩;exact⟨rfl,j ▸ d.step (f.trans r) n k⟩
theorem Rd.down(f:Rd o w p c v m ns)(r:∀t B,m=.live t B->t.k.ends=false)(n:c.deep<8):Calls prog 166 #[π (σ (Ad p 0))] w λi w'=>
 i=τ (.bool true)/\Rd o w' p { c with deep:=c.deep+1 } v m.aK ns/\Fq p v v w w':=by obtain⟨x,q,d,rfl⟩:=f.ex;refine(afj q r (d.deep.symm ▸ n)).mono ?_;rintro i w' ⟨rfl,x',u,A,l,k⟩;have j:Rest { c with deep:=c.deep+1 } { x with deep:=x.deep+1 }:={ d with deep:=bI (·+1) d.deep };exact⟨rfl,l ▸ f.step (j.trans A) u k⟩
theorem Rd.live(d:Rd o w p c v m ns){t:Γ}(f:m.is t=true):m.cZ/\(∀t i,m=.live t i->t.k.ends=false)/\m.aK.len+1=m.len:=by obtain⟨x,q,_⟩:=d.ex;exact(Wp q.mode f).2.2
theorem Rd.tok(i:Rd o w p c v m ns):∃(k:Nat) (t:Γ) (f:Nat) (d:Int),Ξ w (Ad p 2)=σ (ι .u8 k)/\Ξ w (Ad p 3)=σ (θ t)/\Ξ w (Ad p 4)=σ (ι κ f)/\Ξ w (Ad p 5)=σ (ι κ d)/\Hid (m.cZ->f=m.cE)/\dK d/\Hid (m.cZ->oM k t d m.tk)/\Hid (∀s,m.is s=true->t=s):=by obtain⟨x,q,_⟩:=i.ex;refine⟨_,_,_,_,q.pen.cell 2,q.pen.cell 3,q.pen.cell 4,q.pen.cell 5,ak (PW q.mode),q.tn,ak λj=>?_,ak λs l=>(Wp q.mode l).1⟩;have:=q.mode;cases m with|dead _ _=>exact j.elim|live t n=>exact this.2.1
theorem Rd.aog(d:Rd o w p c v m ns):lenOf ((Ξ w (Ad p 19)).getD undef)=Λ ns:=by obtain⟨x,q,_⟩:=d.ex;rw[q.pen.cell 19];show lenOf x.gp=Λ ns;rcases q.own.2 with⟨i,f⟩|⟨g,cap,_,j,_⟩;{rw[i,f];rfl};rw[j];rfl
theorem Rd.aU(d:Rd o w p c v m ns)(b:Below w.heap.size w w'):Rd o w' p c v m ns:=by obtain⟨x,q,i,rfl⟩:=d.ex;exact(d.step i (q.aU b) ⟨b.os,b.tape,b.output,b.size,λk f=>b.block k f.1⟩).1
theorem Rd.drew(d:Rd o w p c v m ns):Rd o w.drew p c v m ns/\Fq p v v w w.drew:=by obtain⟨x,q,f,rfl⟩:=d.ex;exact d.step f q.drew (bu.refl _ _).drew
theorem Rd.lt(d:Rd o w p c v m ns):p<w.heap.size:=by obtain⟨x,q,_⟩:=d.ex;exact q.pen.lt
theorem Rd.err(d:Rd o w p c v m ns):∃e:Nat,Ξ w (Ad p 6)=σ (ι κ e)/\((m.cZ/\((e:Int)==0)=true)\/(¬m.cZ/\((e:Int)==0)=false)):=by obtain⟨x,q,_⟩:=d.ex;refine⟨x.e,q.pen.cell 6,?_⟩;have:=q.mode;cases m with|dead _ _=>(exact .inr ⟨λd=>d,by obtain⟨f,_,i⟩:=this;rw[aY];omega⟩)|live t j=>exact .inl ⟨trivial,by have f:=this.1;rw[dR];omega⟩
theorem Rd.auE(j:Rd o w p c v m ns)(n:m.cZ)(r:∀t d,m=.live t d->t.k.ends=false):m.aK.len+1=m.len:=by obtain⟨x,q,_⟩:=j.ex;cases m with|dead _ _=>exact n.elim|live t d=>obtain⟨_,_,_,l,_⟩:=q.mode;have i:=l (r t d rfl);have f:=Dt x.S x.pos;rw[<- i]at f;cases d with|nil=>exact absurd rfl f|cons u A=>rfl
theorem Rd.Yj(i:Rd o w p c v m ns):(∀d,9<=d->d<19->Ξ w (Ad p d)=(mM c)[d]?)/\Ξ w (Ad p 8)=σ (ι κ c.deep)/\Ξ w (Ad p 19)=σ v/\∀d,w.frozen? (Ad p d)=false:=by obtain⟨x,q,f,rfl⟩:=i.ex;refine⟨λd j l=>?_,(q.pen.cell 8).trans (by show σ (Value.int κ (x.deep:Int))=_;rw[f.deep]),q.pen.cell 19,q.pen.fz⟩;rw[q.pen.cell d];rcases(show d=9\/d=10\/d=11\/d=12\/d=13\/d=14\/d=15\/d=16\/d=17\/d=18 by omega)with rfl|rfl|rfl|rfl|rfl|rfl|rfl|rfl|rfl|rfl;all_goals first|exact bI σ f.cU|exact bI σ f.Bs|exact bI σ f.Bt|exact bI σ f.Gp|exact bI σ f.Gq|exact bI σ f.bJ|exact bI σ f.kinds|exact bI σ f.ry|exact bI σ f.cond|exact bI σ f.oF
end
theorem jz.grown{w w':ω}{p:Nat}{x:gN}{m:aD}{ns:Δ cz}{row:Option Nat}(d:jz i w p x m ns)(j:w.grownBy w' row)(l:∀g,row=σ g->g≠p/\(Ω x.gp)≠σ g/\¬i g):jz i w' p x m ns/\bu i w w':=by have f:bu i w w':=(bu.refl i w).grown j d.old (λk e=>(l k e).2.2);have r:=d.pen.lt;refine⟨⟨d.pen.kY (j.block p r (λe=>(l p e.symm).1 rfl)),?_,d.p0,d.DC,d.pos,d.tk,d.tn,d.tp,d.mode,d.own.kept j ?_,d.apart,d.k0,d.kp,d.kv,λk u=>aw (d.old k u) f.size⟩,f⟩;{intro n s A;exact(f.cell (p:=(Ad 0 n)) d.k0).trans (d.laid n s A)};cases row with|none=>cases hb:Ω x.gp<;>simp|some g=>exact .inr (l g rfl).2.1
theorem jz.field{w:ω}{p:Nat}{x y:gN}{m:aD}{ns:Δ cz}(d:jz i w p x m ns)(f:Nat)(v:υ)(N:(mM x).setIfInBounds f v=mM y)(E:(y.S,y.pos,y.tk,y.tt,y.tp,y.tn,y.e,y.bad,y.gp)=(x.S,x.pos,x.tk,x.tt,x.tp,x.tn,x.e,x.bad,x.gp)) :
 jz i (w.setCell (Ad p f) v) p y m ns/\bu i w (w.setCell (Ad p f) v):=by simp only[Prod.mk.injEq]at E;obtain⟨j,D,H,P,G,F,B,M,u⟩:=E;have A:bu (Other p w) w (w.setCell (Ad p f) v):=(bu.refl _ _).own f _;refine⟨⟨d.pen.set f v N,d.laid.keeps A d.p0,d.p0,by rw[j];exact d.DC,by rw[j,D];exact d.pos,by rw[H];exact d.tk,by rw[F];exact d.tn,by rw[j,G];exact d.tp,?_,by rw[u];exact d.own.kept (grownBy_setCell w (Ad p f) v) (.inr d.apart),by rw[u];exact d.apart,d.k0,d.kp,by rw[u];exact d.kv,λk O=>by simpa[World.setCell]using d.old k O⟩,A.mono d.other⟩;have C:=d.mode;cases m with|dead e b=>(obtain⟨l,n,r⟩:=C;exact⟨by rw[B];exact l,by rw[M];exact n,r⟩)|live t Q=>obtain⟨l,n,r,I,K⟩:=C;exact⟨by rw[B];exact l,by rw[H,P,F];exact n,by rw[G];exact r,by rw[j,D];exact I,K⟩
def Bz(x:gN)(u:υ):Nat->gN
 |9=>{ x with cU:=u }
 |10=>{ x with Bs:=u }
 |11=>{ x with Bt:=u }
 |12=>{ x with Gp:=u }
 |13=>{ x with Gq:=u }
 |14=>{ x with bJ:=u }
 |15=>{ x with kinds:=u }
 |16=>{ x with ry:=u }
 |17=>{ x with cond:=u }
 |18=>{ x with oF:=u }
 |_=>x
theorem afU(d:Nat)(j:9<=d)(l:d<19)(f:υ)(c x:gN)(i:Rest c x):(mM x).setIfInBounds d f=mM (Bz x f d)/\Rest (Bz c f d) (Bz x f d)/\((Bz x f d).S,(Bz x f d).pos,(Bz x f d).tk,(Bz x f d).tt,(Bz x f d).tp,(Bz x f d).tn,(Bz x f d).e,(Bz x f d).bad,(Bz x f d).gp)=(x.S,x.pos,x.tk,x.tt,x.tp,x.tn,x.e,x.bad,x.gp):=by rcases(show d=9\/d=10\/d=11\/d=12\/d=13\/d=14\/d=15\/d=16\/d=17\/d=18 by omega)with rfl|rfl|rfl|rfl|rfl|rfl|rfl|rfl|rfl|rfl;all_goals exact⟨by simp[mM,Bz],by constructor<;>first|rfl|exact i.S|exact i.deep|exact i.cU|exact i.Bs|exact i.Bt|exact i.Gp|exact i.Gq|exact i.bJ|exact i.kinds|exact i.ry|exact i.cond|exact i.oF,rfl⟩
structure St (o:ω×υ)(w:ω)(p:Nat)(c:gN)(v:υ)(m:aD)(ns:Δ cz)(L:Δ It):Prop where
 rd:Rd o w p c v m ns
 ok:∀a∈L,zE o.1.heap.size w a/\∀g,OC a=σ g->g≠p/\(Ω v)≠σ g
 ap:L.Pairwise λa b=>∀g,OC a=σ g->OC b≠σ g
section
variable {o:ω×υ} {w w':ω} {p b lo g cap q z:Nat} {c c':gN} {v v' s:υ} {m m':aD} {ns nN:Δ cz} {L L':Δ It} {a:It} {cs:Array υ} {t:TypeId} {xs ys:Δ υ}
theorem Rd.away(d:Rd o w p c v m ns)(f:w.heap.size<=b):b≠p/\(Ω v)≠σ b:=by obtain⟨x,q,_,rfl⟩:=d.ex;have:=q.pen.lt;exact⟨by omega,λe=>by have:=(q.own.lt b e).2;omega⟩
theorem Rd.put(f:Rd o w p c v m ns)(n:o.1.heap.size<=b)(j:b≠p)(l:Ω v≠σ b)(i:Nat)(u:υ):Rd o (w.setCell (Ad b i) u) p c v m ns:=by obtain⟨x,q,r,rfl⟩:=f.ex;have B:=f.lo;have A:=(q.less (K':=λk=>Oth p x.gp w k/\k≠b) (λ_ d=>d.1) ⟨q.k0,by omega⟩).put j l (λd=>d.2 rfl) i u;exact⟨⟨x,A.more ⟨by simpa[World.setCell]using q.k0.1,q.k0.2.1,q.k0.2.2⟩ (λk d=>.inr ⟨d.2.1,d.2.2,d.1⟩),r,rfl⟩,⟨f.fr.keeps.setCell (p:=(Ad b i)) (λd=>Nat.not_lt.mpr n d.1) u,f.fr.own⟩,f.lo⟩
theorem Rd.grown{row:Option Nat}(f:Rd o w p c v m ns)(j:w.grownBy w' row)(i:∀g,row=σ g->o.1.heap.size<=g/\g≠p/\(Ω v)≠σ g):Rd o w' p c v m ns:=by obtain⟨x,q,l,rfl⟩:=f.ex;have r:=f.lo;obtain⟨n,_⟩:=(q.less (K':=λk=>Oth p x.gp w k/\row≠σ k) (λ_ d=>d.1) ⟨q.k0,λe=>by have:=i 0 e;omega⟩).grown j (λg e=>⟨(i g e).2.1,(i g e).2.2,λd=>d.2 e⟩);exact⟨⟨x,n.more ⟨aw q.k0.1 j.size,q.k0.2.1,q.k0.2.2⟩ (λk d=>.inr ⟨d.2.1,d.2.2,d.1⟩),l,rfl⟩,⟨f.fr.keeps.grown j (λk d=>aw d.1 f.fr.keeps.size) (λk e d=>by have:=(i k e).1;have:=d.1;omega),f.fr.own⟩,f.lo⟩
theorem Rd.set(j:Rd o w p c v m ns)(i:Nat)(n:9<=i)(r:i<19)(d:υ):Rd o (w.setCell (Ad p i) d) p (Bz c d i) v m ns/\Fq p v v w (w.setCell (Ad p i) d):=by
 obtain⟨x,q,B,rfl⟩:=j.ex;obtain⟨u,l,f⟩:=afU i n r d c x B;obtain⟨D,C⟩:=q.field i d u f;have A:(Bz x d i).gp=x.gp:=by simp only[Prod.mk.injEq]at f;exact f.2.2.2.2.2.2.2.2
 exact A ▸ j.step l D C
theorem St.call(S:St o w p c v m ns L)(i:Rd o w' p c' v' m' nN)(f:Fq p v v' w w'):St o w' p c' v' m' nN L:=
 ⟨i,λa j=>by
  obtain⟨k,q⟩:=S.ok a j;exact⟨qs k λg d=>f.keeps.block g ⟨(pI k d).1,q g d⟩,λg d=>⟨(q g d).1,λe=>(f.own g e).elim (q g d).2 (by have:=(pI k d).1;omega)⟩⟩,S.ap⟩
theorem St.set(S:St o w p c v m ns L)(i:Nat)(f:9<=i)(j:i<19)(d:υ):St o (w.setCell (Ad p i) d) p (Bz c d i) v m ns L:=S.call (S.rd.set i f j d).1 (S.rd.set i f j d).2
theorem St.aU(S:St o w p c v m ns L)(b:Below w.heap.size w w'):St o w' p c v m ns L:=S.call (S.rd.aU b) (Fq.aU b)
theorem St.alloc(S:St o w p c v m ns L)(d:Obj):St o (w.alloc d) p c v m ns L:=S.aU ((aj _ _).alloc (ae _) d)
theorem St.drew(S:St o w p c v m ns L):St o w.drew p c v m ns L:=S.call S.rd.drew.1 S.rd.drew.2
theorem St.cons(S:St o w p c v m ns L)(f:zE o.1.heap.size w a/\∀g,OC a=σ g->g≠p/\(Ω v)≠σ g)(l:∀g,OC a=σ g->∀b∈L,OC b≠σ g):St o w p c v m ns (a::L):=
 ⟨S.rd,λn d=>by rcases bV.mp d with rfl|d;exact f;exact S.ok _ d,bE.mpr ⟨λb i g j=>l g j b i,S.ap⟩⟩
theorem St.new(S:St o w p c v m ns L)(cs:Array υ)(t:TypeId):St o (w.alloc (ξ cs t)) p c v m ns (.inl (w.heap.size,cs,t)::L):=by refine(S.alloc _).cons ⟨⟨az w _,S.rd.fr.keeps.size⟩,λg d=>?_⟩ (λg d b f e=>?_);{cases d;exact S.rd.away (ae _)};cases d;have:=(pI (S.ok b f).1 e).1;omega
theorem St.xb(S:St o w p c v m ns L)(d:Array υ)(f:TypeId)(i:Array υ)(j:TypeId):St o ((w.alloc (ξ d f)).alloc (ξ i j)) p c v m ns (.inl (w.heap.size+1,i,j)::.inl (w.heap.size,d,f)::L):=by have l:=(S.new d f).new i j;rwa[show(w.alloc (ξ d f)).heap.size=w.heap.size+1 from by simp]at l
theorem St.Kw(S:St o w p c v m ns L)(d:Array υ)(i:TypeId)(f:Array υ)(j:TypeId)(l:Array υ)(n:TypeId):St o (((w.alloc (ξ d i)).alloc (ξ f j)).alloc (ξ l n)) p c v m ns (.inl (w.heap.size+1+1,l,n)::.inl (w.heap.size+1,f,j)::.inl (w.heap.size,d,i)::L):=by have r:=(S.xb d i f j).new l n;rwa[show((w.alloc (ξ d i)).alloc (ξ f j)).heap.size=w.heap.size+1+1 from by simp]at r
theorem St.nil(S:St o w p c v m ns L)(t:TypeId)(z:Nat):St o w p c v m ns (.inr (ψ ν 0 0,t,z,0,[])::L):=
 S.cons ⟨eM _ _ _ _,λg d=>by cases d⟩ (λg d=>by cases d)
theorem St.perm(S:St o w p c v m ns L)(d:L.Perm L'):St o w p c v m ns L':=⟨S.rd,λa i=>S.ok a (d.mem_iff.mpr i),(d.pairwise_iff (λk g e f=>k g f e)).mp S.ap⟩
theorem St.rot(S:St o w p c v m ns (a::L)):St o w p c v m ns (L++[a]):=S.perm (mE a L).symm
theorem St.swap{d:It}(S:St o w p c v m ns (a::d::L)):St o w p c v m ns (d::a::L):=S.perm (.swap _ _ _)
theorem St.OQ{d e:It}(S:St o w p c v m ns (a::d::e::L)):St o w p c v m ns (e::a::d::L):=S.perm (nM (l₁:=[a,d]))
theorem St.up3{d e f:It}(S:St o w p c v m ns (a::d::e::f::L)):St o w p c v m ns (f::a::d::e::L):=S.perm (nM (l₁:=[a,d,e]))
theorem St.drop(S:St o w p c v m ns (a::L)):St o w p c v m ns L:=⟨S.rd,λa d=>S.ok a (eT _ d),(bE.mp S.ap).2⟩
theorem St.put(S:St o w p c v m ns (.inl (b,cs,t)::L))(i:Nat)(u:υ):St o (w.setCell (Ad b i) u) p c v m ns (.inl (b,cs.setIfInBounds i u,t)::L):=by obtain⟨⟨B,l⟩,f⟩:=S.ok _ (.head _);have j:=bE.mp S.ap;refine⟨S.rd.put l (f b rfl).1 (f b rfl).2 i u,λa d=>?_,bE.mpr j⟩;rcases bV.mp d with rfl|d;{exact⟨⟨bq w b i _ _ u B,l⟩,f⟩};obtain⟨r,A⟩:=S.ok a (.tail _ d);exact⟨qs r λg n=>aL _ _ _ _ (λe=>j.1 a d b rfl ((show g=b from e) ▸ n)),A⟩
theorem St.app(S:St o w p c v m ns (.inr (s,t,z,q,xs)::L))(D:w'.ownsRow o.1.heap.size t z (ψ (σ (Ad g 0)) n cap) n ys)(r:w.grownBy w' (Ω s))(f:Ω s=σ g\/w.heap.size<=g) :
 St o w' p c v m ns (.inr (ψ (σ (Ad g 0)) n cap,t,z,n,ys)::L):=by obtain⟨F,A⟩:=S.ok _ (.head _);have l:=bE.mp S.ap;have C:=S.rd.grown r (λg e=>⟨(pI F e).2,A g e⟩);refine⟨C,λa j=>?_,bE.mpr ⟨λb B i d e=>?_,l.2⟩⟩;{rcases bV.mp j with rfl|j;{refine⟨D,λi d=>?_⟩;cases d;exact f.elim (A g) S.rd.away};obtain⟨u,E⟩:=S.ok a (.tail _ j);exact⟨qs u λi d=>r.block i (pI u d).1 (λe=>l.1 a j i e.symm d),E⟩};cases d;rcases f with f|f;{exact l.1 b B g f e};exact absurd (pI (S.ok b (.tail _ B)).1 e).1 (Nat.not_lt.mpr f)
theorem St.box(S:St o w p c v m ns L){i:Nat}(f:L[i]?=σ (.inl (b,cs,t))):w.heap[b]?=σ (ξ cs t (0,0))/\b<w.heap.size/\b≠p:=by have d:=S.ok _ (aq f);exact⟨d.1.1,aA d.1.1,(d.2 _ rfl).1⟩
theorem St.row(S:St o w p c v m ns L){i:Nat}(d:L[i]?=σ (.inr (s,t,z,q,xs))):w.ownsRow o.1.heap.size t z s q xs:=(S.ok _ (aq d)).1
theorem St.slice(S:St o w p c v m ns L){i:Nat}(l:L[i]?=σ (.inr (s,t,z,q,xs))):∃a d,s=ψ a q d:=by rcases(S.row l).2 with⟨j,f⟩|⟨g,cap,_,n,_⟩;{exact⟨_,_,by rw[j,f]⟩};exact⟨_,_,n⟩
theorem St.one(S:St o w p c v m ns (.inl (b,cs,t)::L))(j:cs.size=z):St o w p c v m ns (.inr (ψ (σ (Ad b 0)) 1 1,t,z,1,cs.toList)::L):=by obtain⟨⟨l,n⟩,r⟩:=S.ok _ (.head _);have i:w.ownsRow o.1.heap.size t z (ψ (σ (Ad b 0)) 1 1) 1 cs.toList:=⟨by simpa using j,.inr ⟨b,1,cs,rfl,n,l,by omega,by decide,by omega,by rw[aQ (by simp;omega)]⟩⟩;exact S.drop.cons ⟨i,λg d=>by cases d;exact r b rfl⟩ (λg d a f=>by cases d;exact(bE.mp S.ap).1 a f b rfl)
theorem Rd.start(d:Rd o w p c v m ns):St (w,v) w p c v m ns []:=⟨⟨d.ex,Fq.refl p v w,d.lt⟩,(λ_ d=>by cases d),.nil⟩
theorem St.fin(S:St (w,v) w' p c' v' m' nN L)(d:Rd o w p c v m ns):Rd o w' p c' v' m' nN/\Fq p v v' w w':=⟨⟨S.rd.ex,d.fr.trans S.rd.fr,d.lo⟩,S.rd.fr⟩
theorem St.asks{e:TypeId}{size:Nat}(S:St o w p c v m ns (.inr (s,e,size,n,xs)::L))(j:w.heap[f]?=σ (ξ cs e (0,0)))(r:n+1<=100000):w.ownsRow o.1.heap.size e size s n xs/\(∀d i,cs.toList[d]?=σ i->Ξ w ((Ad f 0).add d)=σ i)/\n+1<=maxLen/\(∀c,c<=1000->(n+1)*c<=140737488355328)/\o.1.heap.size<=w.heap.size:=
 ⟨S.row (i:=0) rfl,World.news_of_block j,by unfold maxLen;omega,λc l=>ay (jr r l) (by decide),S.rd.fr.keeps.size⟩
theorem St.push{C:Array Oper}{rest:Δ Oper}{j:Oper}{i:Act}{B:Exit->Act->ω->Prop}{e:TypeId}{size:Nat}(S:St o w p c v m ns (.inr (s,e,size,n,xs)::L))(D:j.guard=ν)(u A:Operand)(t:TypeId)(X:j.op=.call { callee:=.builtin .append,args:=#[u,A],argTypes:=#[t,t] })(Z:prog.underlying t=σ (.slice e)){bytes:Nat}(R:(prog.info? e).map (λd=>(d.zero,d.size,d.bytes))=σ (σ l,size,bytes))(r:l.cells.size=size/\0<size/\bytes<=1000)(Y:i.eval u=s)(hx:i.eval A=ψ (σ (Ad f 0)) 1 1)(T:w.heap[f]?=σ (ξ cs e (0,0)))(K:cs.size=size)(N:∀aa∈cs.toList,aa.oneCell'=true)(V:n+1<=100000)
 (M:∀g cap w',St o w' p c v m ns (.inr (ψ (σ (Ad g 0)) (n+1) cap,e,size,n+1,xs++cs.toList)::L)->wpList prog C B rest (i.put j.dst (ψ (σ (Ad g 0)) (n+1) cap)) w'):wpList prog C B (j::rest) i w:=by obtain⟨d,U,lB,ll,kV⟩:=gq R;obtain⟨E,F,G,H,I⟩:=S.asks T V;exact mb _ D u A t X _ e d l size bytes Z U lB ll kV r.1 r.2.1 s n xs Y E (Ad f 0) 1 1 cs.toList hx (by rw[dF,K,Nat.one_mul]) F N (by decide) G (H _ r.2.2) I λg cap w' O P Q=>M g cap w' (S.app O P Q)
theorem St.step{aa:Array Oper}{j:Oper}{d:Act}{C:Act->ω->Prop}{E:Exit->Act->ω->Prop}{D:Prop}{e:TypeId}{size:Nat}(S:St o w p c v m ns (.inr (s,e,size,n,xs)::L))(F:j.guard=ν)(A B:Operand)(t:TypeId)(Z:j.op=.call { callee:=.builtin .append,args:=#[A,B],argTypes:=#[t,t] })(ht:prog.underlying t=σ (.slice e)){bytes:Nat}(U:(prog.info? e).map (λi=>(i.zero,i.size,i.bytes))=σ (σ l,size,bytes))(r:l.cells.size=size/\0<size/\bytes<=1000)(hs:d.eval A=s)(hx:d.eval B=ψ (σ (Ad f 0)) 1 1)(V:w.heap[f]?=σ (ξ cs e (0,0)))(N:cs.size=size)(P:∀u∈cs.toList,u.oneCell'=true)(Y:n+1<=100000)
 (O:∀g cap w',St o w' p c v m ns (.inr (ψ (σ (Ad g 0)) (n+1) cap,e,size,n+1,xs++cs.toList)::L)->C (d.put j.dst (ψ (σ (Ad g 0)) (n+1) cap)) w'):if Region.wanted j (yielded aa d.tmps)=true then Oper.wp prog j d w C E else D:=by obtain⟨i,X,lB,ll,kV⟩:=gq U;obtain⟨G,H,I,K,M⟩:=S.asks V Y;exact step_append_lies _ F A B t Z _ e i l size bytes ht X lB ll kV r.1 r.2.1 s n xs hs G (Ad f 0) 1 1 cs.toList hx (by rw[dF,N,Nat.one_mul]) H P (by decide) I (K _ r.2.2) M _ rfl λg cap w' Q R T _=>O g cap w' (S.app Q R (T.imp id λe=>by omega))
end
def Nq(ns nN:Δ cz):Prop:=∀(j:Nat) (v:cz),ns[j]?=σ v->∃f,nN[j]?=σ { v with first:=f }
theorem DU{ns nN:Δ cz}(f:ns <+: nN){k:Nat}{v:cz}(d:ns[k]?=σ v):nN[k]?=σ v:=by obtain⟨t,rfl⟩:=f;rw[bF (ah.mp d).1];exact d
theorem Nq.pre{ns nN:Δ cz}(d:ns <+: nN):Nq ns nN:=λ_ v f=>⟨v.first,DU d f⟩
theorem OD.mono{ns nN:Δ cz}(j:Nq ns nN):∀{e:Ex} {k:Nat},OD ns k e->OD nN k e:=by intro e;induction e with|num A=>(rintro k ⟨v,d,f⟩;obtain⟨l,i⟩:=j k v d;exact⟨_,i,f⟩)|str A=>(rintro k ⟨v,d,f⟩;obtain⟨l,i⟩:=j k v d;exact⟨_,i,f⟩)|bool A=>(rintro k ⟨v,d,f⟩;obtain⟨l,i⟩:=j k v d;exact⟨_,i,f⟩)|col A a=>(rintro k ⟨v,d,f⟩;obtain⟨l,i⟩:=j k v d;exact⟨_,i,f⟩)|neg a x u=>(rintro k ⟨v,d,f,n,r⟩;obtain⟨l,i⟩:=j k v d;exact⟨_,i,f,n,u r⟩)|not a x u=>(rintro k ⟨v,d,f,n,r⟩;obtain⟨l,i⟩:=j k v d;exact⟨_,i,f,n,u r⟩)|lA b a x u=>(rintro k ⟨v,d,f,n,r⟩;obtain⟨l,i⟩:=j k v d;exact⟨_,i,f,n,u r⟩)|two o a x y B C=>(rintro k ⟨v,d,f,n,r,D⟩;obtain⟨l,i⟩:=j k v d;exact⟨_,i,f,n,B r,C D⟩)|junk=>intro k j;exact j
structure Bd (m m':aD)(ns nN:Δ cz)(k:Nat)(e:Ex):Prop where
 pre:ns <+: nN
 lo:Λ ns<=k
 hi:k<Λ nN
 bz:Λ nN+m'.len<=Λ ns+m.len+m'.due
 rep:m'.cZ->OD nN k e/\∃x,nN[k]?=σ x/\x.first=m.cE
theorem Bd.len{m m':aD}{ns nN:Δ cz}{k:Nat}{e:Ex}(d:Bd m m' ns nN k e):m'.len<=m.len:=by have f:=d.lo;have i:=d.hi;have j:=d.bz;have l:=wD m';omega
def PF(f:Nat)(S:Option BJ->aD->Ex×aD)(d:Nat):Prop:=
 ∀(o:ω×υ) (w:ω) (p:Nat) (c:gN) (v:υ) (m:aD) (ns:Δ cz),Rd o w p c v m ns->c.deep+d=8->Λ ns+m.len<=600->
   Calls prog f #[π (σ ⟨p,0,ν⟩)] w λr w'=>∃(v':υ) (nN:Δ cz) (k:Nat),r=τ (ι κ k)/\Rd o w' p c v' (S (lvl d) m).2 nN/\Fq p v v' w w'/\Bd m (S (lvl d) m).2 ns nN k (S (lvl d) m).1
theorem or3(a b c:Bool):(a=false/\b=false/\c=false)\/a=true\/(a=false/\b=true)\/(a=false/\b=false/\c=true):=by cases a<;>cases b<;>cases c<;>simp
theorem or2(a b:Bool):(a=false/\b=false)\/a=true\/(a=false/\b=true):=by cases a<;>cases b<;>simp
theorem or1(a:Bool):a=false\/a=true:=by cases a<;>simp
theorem Bb{ns:Δ cz}{x:cz}:(ns++[x])[Λ ns]?=σ x:=by simp
theorem Bd.two{m d B:aD}{ns n1 f:Δ cz}{k pl:Nat}{op:Γ}{j l:Ex}{i:cz}(a:Bd m d ns n1 k j)(r:d.cZ)(N:d.aK.len+1=d.len)(b:Bd d.aK B n1 f n l)(u:f[k]?=σ i):Bd m B ns (f++[⟨op,pl,i.first,k,n,0,⟨#[]⟩⟩]) (Λ f) (.two op pl j l):=by have D:=a.bz;have H:=b.bz;have I:=a.lo;have K:=a.hi;have M:=b.pre.length_le;rw[tI r]at D;refine⟨a.pre.trans (b.pre.trans (qK _ _)),by omega,by simp,by simp;omega,λC=>?_⟩;obtain⟨G,x,F,E⟩:=a.rep r;have A:=Nq.pre (qK f [⟨op,pl,i.first,k,n,0,⟨#[]⟩⟩]);rw[DU b.pre F]at u;cases u;exact⟨⟨_,Bb,rfl,rfl,(G.mono (Nq.pre b.pre)).mono A,(b.rep C).1.mono A⟩,_,Bb,E⟩
theorem yq(f:Nat):(PF 223 jL f->PF 205 BK f)/\(PF 205 BK f->PF 190 gU f)/\(PF 120 jQ f->PF 83 BL f)/\(PF 83 BL f->PF 57 ny f):=by
 refine⟨λr=>?_,λr=>?_,λr=>?_,λr=>?_⟩;all_goals
  intro o w p c v m ns h R hf;unfold PF at r;first
   | (obtain⟨S,j⟩:=nm (jL (lvl f));obtain⟨l,i⟩:=nm vG;rw[<- j]at r;rw[show BK (lvl f) m=nh S l (S m).2.len (S m).1 (S m).2 from by rw[j,i];rfl];have u:=ak i;clear j i;go_in)
   | (obtain⟨S,j⟩:=nm (BK (lvl f));obtain⟨l,i⟩:=nm uL;rw[<- j]at r;rw[show gU (lvl f) m=nh S l (S m).2.len (S m).1 (S m).2 from by rw[j,i];rfl];have u:=ak i;clear j i;go_in)
   | (obtain⟨S,j⟩:=nm (jQ (lvl f));obtain⟨l,i⟩:=nm A2;rw[<- j]at r;rw[show BL (lvl f) m=nh S l (S m).2.len (S m).1 (S m).2 from by rw[j,i];rfl];have u:=ak i;clear j i;go_in)
   | (obtain⟨S,j⟩:=nm (BL (lvl f));obtain⟨l,i⟩:=nm A4;rw[<- j]at r;rw[show ny (lvl f) m=nh S l (S m).2.len (S m).1 (S m).2 from by rw[j,i];rfl];have u:=ak i;clear j i;go_in)
  go_wp2_with fail;refine(r o w p c v m ns h R hf).mono ?_;rintro M w1 ⟨v1,n1,k,rfl,h1,f1,b1⟩;go_wp2_with fail;go_loopw[3] (λa wr=>∃(k:Nat) (v':υ) (m':aD) (nN:Δ cz) (e:Ex) (A:Nat),a=ι κ k/\Rd o wr p c v' m' nN/\Fq p v v' w wr/\Bd m m' ns nN k e/\m'.len<=A/\Hid (nh S l A e m'=nh S l (S m).2.len (S m).1 (S m).2)) (λ_ wr=>2000 - lenOf ((Ξ wr ⟨p,19,ν⟩).getD undef));case atStart=>exact⟨k,_,_,_,_,_,rfl,h1,f1,b1,ae _,ak rfl⟩
  case round=>
   obtain⟨K,v',m',X,e,A,rfl,B,P,D,CM,N⟩:=hrel;obtain⟨_,t,al,_,_,c3,c4,_,HI,_,_,O⟩:=B.tok;first
    | (have _q:Hid (l=vG):=u;rcases or3 (m'.is (ByteArray.mk #[42])) (m'.is (ByteArray.mk #[47])) (m'.is (ByteArray.mk #[37]))with⟨d,n,F⟩|d|⟨d,n⟩|⟨d,n,F⟩)
    | (have _q:Hid (l=uL):=u;rcases or2 (m'.is (ByteArray.mk #[43])) (m'.is (ByteArray.mk #[45]))with⟨d,n⟩|d|⟨d,n⟩)
    | (have _q:Hid (l=A2):=u;rcases or1 (m'.is (ByteArray.mk #[97,110,100]))with d|d)
    | (have _q:Hid (l=A4):=u;rcases or1 (m'.is (ByteArray.mk #[111,114]))with d|d)
   {have HF:=ak ((Ip (by rw[u.J];first|(simp[vG,bs,d,n,F];done)|(simp[uL,bs,d,n];done)|(simp[A2,bs,d];done)|(simp[A4,bs,d];done))).symm.trans N.J);go_wp2_with(go_at_call 33;refine(B.is _).mono ?_;rintro r' w' ⟨rfl,rfl⟩);go_ret;refine⟨v',X,K,rfl,?_⟩;rw[<- HF.J];exact⟨B,P,D⟩};all_goals
    obtain⟨G,I,U⟩:∃G,m'.is G=true/\l.find? (λo=>m'.is o)=σ G:=(by rw[u.J];first|exact⟨_,F,by simp[vG,bs,d,n,F]⟩|exact⟨_,n,by simp[vG,bs,d,n]⟩|exact⟨_,d,by simp[vG,bs,d]⟩|exact⟨_,n,by simp[uL,bs,d,n]⟩|exact⟨_,d,by simp[uL,bs,d]⟩|exact⟨_,d,by simp[A2,bs,d]⟩|exact⟨_,d,by simp[A4,bs,d]⟩);obtain⟨H,e4,e5⟩:=B.live I;obtain⟨A,rfl⟩:∃g,A=g+1:=⟨A - 1,by omega⟩;have Z:=ak (Io N.J U);have C:=ak (And.intro (O.J G I) (HI.J H));have qd:=D.bz;rw[tI H]at qd;clear I U;go_wp2_with(go_at_call 33;refine(B.is _).mono ?_;rintro r' w' ⟨rfl,rfl⟩);refine(B.aK e4).mono ?_;rintro M w2 ⟨rfl,h3,f3⟩;clear c3 c4;go_wp2_with fail;refine(r o w2 p c v' m'.aK X h3 R (by omega)).mono ?_;rintro M w3 ⟨v3,n3,ab,rfl,h4,f4,E⟩;have gO:=E.bz;have ai:=D.hi;have ad:=wD (S m'.aK).2;have zi:=E.pre.length_le;have ag:=E.len;obtain⟨Y,T⟩:∃Y,n3[K]?=σ Y:=⟨_,af (by omega)⟩;go_wp2_with fail;refine(h4.two _ _ K ab T (by omega)).mono ?_;rintro M w4 ⟨v4,rfl,Q,f5⟩;have aa:=ak λop pl=>D.two (op:=op) (pl:=pl) H e5 E T;have V:=Q.aog;have ac:=B.aog;rw[au]at V;go_wp2_with fail;go_roundw;case rel=>
     refine⟨_,v4,_,_,_,A,rfl,Q,P.trans (f3.trans (f4.trans f5)),aa.J _ _,by omega,ak ?_⟩;first
      |rw[C.J.1,C.J.2];exact Z.J
      |rw[<- O.J _ d,C.J.1,C.J.2];exact Z.J
    case measure=>rw[V,ac];simp only[List.length_singleton];omega
theorem LW(d:Nat)(f:PF 223 jL d):PF 205 BK d:=(yq d).1 f
theorem LX(d:Nat)(f:PF 205 BK d):PF 190 gU d:=(yq d).2.1 f
theorem PZ(d:Nat)(f:PF 120 jQ d):PF 83 BL d:=(yq d).2.2.1 f
theorem P0(d:Nat)(f:PF 83 BL d):PF 57 ny d:=(yq d).2.2.2 f
section
variable {o:ω×υ} {w w':ω} {p:Nat} {c:gN} {v:υ} {m m':aD} {ns n1:Δ cz} {k:Nat} {e:Ex} {y:cz}
theorem Rd.up(f:Rd o w p { c with deep:=c.deep+1 } v m ns):Ξ w (Ad p 8)=σ (ι κ ((c.deep:Int)+1))/\w.frozen? (Ad p 8)=false/\Rd o (w.setCell (Ad p 8) (ι κ c.deep)) p c v m ns/\Fq p v v w (w.setCell (Ad p 8) (ι κ c.deep)):=by refine⟨f.Yj.2.1,f.Yj.2.2.2 8,?_⟩;obtain⟨x,q,d,rfl⟩:=f.ex;obtain⟨j,i⟩:=q.field (y:={ x with deep:=c.deep }) 8 (ι κ c.deep) (by simp[mM]) rfl;exact f.step (x':={ x with deep:=c.deep }) ⟨d.S,rfl,d.cU,d.Bs,d.Bt,d.Gp,d.Gq,d.bJ,d.kinds,d.ry,d.cond,d.oF⟩ j i
theorem Bd.node(i:ns <+: n1)(l:Λ n1+1+m'.len<=Λ ns+m.len+m'.due)(j:m'.cZ->y.first=m.cE/\∀d,Nq n1 d->d[Λ n1]?=σ y->OD d (Λ n1) e):Bd m m' ns (n1++[y]) (Λ n1) e:=
 ⟨i.trans (qK _ _),i.length_le,by simp,by simp;omega,λf=>⟨(j f).2 _ (Nq.pre (qK _ _)) Bb,y,Bb,(j f).1⟩⟩
theorem Bd.dead(d:¬m'.cZ):Bd m m' ns (ns++[y]) (Λ ns) e:=Bd.node (kN _) (by rw[(qi d).1,(qi d).2];omega) λf=>absurd f d
theorem Rd.ab0(i:Rd o w p c v m ns)(f:ns[k]?=σ y):∃g cap,v=ψ (σ (Ad g 0)) (Λ ns) cap/\Ξ w (Ad p 19)=σ (ψ (σ (Ad g 0)) (Λ ns) cap)/\g≠p/\w.frozen? (Ad g (k*7+2))=false/\Ξ w (Ad g (k*7+2))=σ (ι κ y.first):=by have l:=(ah.mp f).1;obtain⟨x,q,n,rfl⟩:=i.ex;have⟨g,cap,d,j⟩:=q.slice (by omega);exact⟨g,cap,d,(q.pen.cell 19).trans (by rw[<- d];rfl),λe=>q.apart (by rw[d,e];rfl),by have:=q.own;rw[d]at this;exact this.frozenAt _,(j _ (by omega)).trans (DE ns k _ f)⟩
end
theorem afV{s:Option BJ}{m:aD}(d:m.is pN=false):jL s m=kO s m:=aH (by rw[d];decide)
theorem afW{s:Option BJ}{m:aD}(d:m.is Ck=false):jQ s m=pH s m:=aH (by rw[d];decide)
theorem G9(d:Nat):(PF 237 kO 0->PF 223 jL 0)/\(PF 237 kO (d+1)->PF 223 jL d->PF 223 jL (d+1))/\(PF 165 pH 0->PF 120 jQ 0)/\(PF 165 pH (d+1)->PF 120 jQ d->PF 120 jQ (d+1)):=by
 refine⟨λj=>?_,λj A=>?_,λj=>?_,λj A=>?_⟩;all_goals
  intro o w p c v m ns f R T;have⟨_,_,D,_,_,_,c4,_,B,_⟩:=f.tok;(first|(have _q:PF 237 kO _:=j;cases LD:m.is (ByteArray.mk #[45]))|cases LD:m.is (ByteArray.mk #[110,111,116]));all_goals
   first
    |go_in
    |go_in
   go_wp2_with(go_at_call 33;refine(f.is _).mono ?_;rintro r' w' ⟨rfl,rfl⟩);first
    | (refine(j o w p c v m ns f R T).mono ?_
       rintro i u ⟨Y,n1,k,rfl,q⟩;go_wp2;go_ret
       first|rw[afV LD]|rw[afW LD]
       exact⟨Y,n1,k,rfl,q⟩)
    | (refine(f.PY (by omega)).mono ?_
       rintro i u ⟨rfl,r,n⟩;go_wp2_with fail;refine(r.node ⟨⟨#[]⟩,0,0,0,0,0,⟨#[]⟩⟩ (by omega)).mono ?_;rintro i w2 ⟨Z,rfl,K,F⟩;go_wp2;go_ret
       first|rw[show jL (lvl 0) m=(.junk,m.cQ 3)from aN LD]|rw[show jQ (lvl 0) m=(.junk,m.cQ 3)from aN LD]
       exact⟨Z,_,Λ ns,rfl,K,n.trans F,Bd.dead (ez m 3)⟩)
    | (have⟨C,E,e5⟩:=f.live LD
       refine(f.down E (by omega)).mono ?_;rintro i u ⟨rfl,r,n⟩;go_wp2_with fail;refine(A o u p _ v m.aK ns r (by show c.deep+1+d=8;omega) (by omega)).mono ?_;rintro i w3 ⟨v3,X,V,rfl,M,G,l⟩;have⟨c8,z8,N,H⟩:=M.up;have hb:=l.bz;have ab:=And.intro (wD (jL (lvl d) m.aK).2) (wD (jQ (lvl d) m.aK).2);go_wp2_with fail;refine(N.node ⟨_,D,D,V,0,0,⟨#[]⟩⟩ (by omega)).mono ?_;rintro i w5 ⟨v5,rfl,O,I⟩;go_wp2;go_ret
       first
        |rw[show jL (lvl (d+1)) m=(.neg m.cE (jL (lvl d) m.aK).1,(jL (lvl d) m.aK).2)from aN (show m.is pN=true from LD)]
        |rw[show jQ (lvl (d+1)) m=(.not m.cE (jQ (lvl d) m.aK).1,(jQ (lvl d) m.aK).2)from aN (show m.is Ck=true from LD)]
       rw[<- B.J C];exact⟨v5,_,Λ X,rfl,O,n.trans (G.trans (H.trans I)),Bd.node l.pre (by dsimp only;omega) λQ=>⟨B.J C,λaa P U=>⟨_,U,rfl,rfl,(l.rep Q).1.mono P⟩⟩⟩)
theorem or6(a b c d e f:Bool):(a=false/\b=false/\c=false/\d=false/\e=false/\f=false)\/a=true\/(a=false/\b=true)\/(a=false/\b=false/\c=true)\/(a=false/\b=false/\c=false/\d=true)\/(a=false/\b=false/\c=false/\d=false/\e=true)\/(a=false/\b=false/\c=false/\d=false/\e=false/\f=true):=by cases a<;>cases b<;>cases c<;>cases d<;>cases e<;>cases f<;>simp
theorem ab1{sub:Option BJ}{m:aD}{o:Γ}(d:mF.find? (λo=>(gU sub m).2.is o)=σ o):pH sub m=(.two o (gU sub m).2.cE (gU sub m).1 (gU sub (gU sub m).2.aK).1,(gU sub (gU sub m).2.aK).2):=by unfold pH;simp only;rw[d]
theorem ab2{sub:Option BJ}{m:aD}(d:mF.find? (λo=>(gU sub m).2.is o)=ν):pH sub m=if(gU sub m).2.is kIs then(.lA ((gU sub m).2.aK.is Ck) (gU sub m).2.cE (gU sub m).1,(if(gU sub m).2.aK.is Ck then(gU sub m).2.aK.aK else(gU sub m).2.aK).take tZ)else((gU sub m).1,(gU sub m).2):=by unfold pH;simp only;rw[d]
theorem P7(l:Nat)(hl:PF 190 gU l):PF 165 pH l:=by
 intro o w p c v m ns h0 hd hf;go_in;go_wp2_with fail;refine(hl o w p c v m ns h0 hd hf).mono ?_;rintro B w1 ⟨Z,n1,k,rfl,n,R,u⟩;have⟨_,t,aa,_,_,c3,c4,_,HI,_,_,HW⟩:=n.tok;have Yk:∀o,mF.find? (λo=>(gU (lvl l) m).2.is o)=σ o->Hid (pH (lvl l) m=_):=λo N=>ak (ab1 N);have ac:mF.find? (λo=>(gU (lvl l) m).2.is o)=ν->Hid (pH (lvl l) m=_):=λa=>ak (ab2 a);generalize (gU (lvl l) m).2=d at *;generalize (gU (lvl l) m).1=e1 at *;have ad:=u.hi;have cI:=u.bz;have ai:=wD d;obtain⟨y,D⟩:∃y,n1[k]?=σ y:=⟨_,af ad⟩;rcases or6 (d.is (ByteArray.mk #[61])) (d.is (ByteArray.mk #[60,62])) (d.is (ByteArray.mk #[60])) (d.is (ByteArray.mk #[60,61])) (d.is (ByteArray.mk #[62])) (d.is (ByteArray.mk #[62,61]))with⟨f,i,j,r,E,O⟩|f|⟨f,i⟩|⟨f,i,j⟩|⟨f,i,j,r⟩|⟨f,i,j,r,E⟩|⟨f,i,j,r,E,O⟩
 .have F:=ac (by simp[mF,bs,f,i,j,r,E,O]);cases i6:d.is (ByteArray.mk #[105,115]);{have G:=ak (F.J.trans (aH (by show¬d.is (ByteArray.mk #[105,115])=true;rw[i6];decide)));go_wp2_with(go_at_call 33;refine(n.is _).mono ?_;rintro Y w' ⟨rfl,rfl⟩);go_ret;refine⟨Z,n1,k,rfl,?_⟩;rw[G.J];exact⟨n,R,u⟩}
  have⟨A,Q,e5⟩:=n.live i6;have G:=ak (F.J.trans (aN i6));rw[tI A]at cI;go_wp2_with(go_at_call 33;refine(n.is _).mono ?_;rintro Y w' ⟨rfl,rfl⟩);refine(n.aK Q).mono ?_;rintro B w2 ⟨rfl,C,T⟩;go_wp2_with fail;refine(C.is _).mono ?_;rintro Y w' ⟨rfl,rfl⟩;cases i7:d.aK.is (ByteArray.mk #[110,111,116]);(case' true=>have⟨q3,q4,q5⟩:=C.live i7;go_wp2_with fail;refine(C.aK q4).mono ?_;rintro B w3 ⟨rfl,K,I⟩);(case' false=>have K:=C;have I:=Fq.refl p Z w2);all_goals
   rw[show d.aK.is Ck=_ from i7]at G;go_wp2_with fail;refine(K.take _).mono ?_;rintro B w4 ⟨_,rfl,M,U,-⟩;have⟨g,cap,hv,am,Kv,zf,cf⟩:=M.ab0 D;have g1:(k:Int)<Λ n1:=(by omega);go_wp2_with fail;refine(M.node ⟨_,aa,y.first,k,0,0,⟨#[]⟩⟩ (by omega)).mono ?_;rintro B w5 ⟨v5,rfl,h5,f5⟩;go_wp2;go_ret;have hx:=dX (m:=d.aK);have ht:=take_len d.aK tZ;have an:=take_len d.aK.aK tZ;obtain⟨r1,x,SG,Ku⟩:=u.rep A;rw[D]at SG;cases SG;rw[G.J,<- HI.J A];refine⟨v5,_,Λ n1,rfl,h5,R.trans (T.trans (I.trans (U.trans f5))),Bd.node u.pre ?_ λha=>⟨Ku,λag hN D=>⟨_,D,rfl,rfl,r1.mono hN⟩⟩⟩;first
    | (have V:Λ n1+1+(d.aK.take tZ).len<=Λ ns+m.len+(d.aK.take tZ).due:=by omega
       exact V)
    | (have V:Λ n1+1+(d.aK.aK.take tZ).len<=Λ ns+m.len+(d.aK.aK.take tZ).due:=by omega
       exact V)
 all_goals obtain⟨P,X,N⟩:∃P,d.is P=true/\mF.find? (λo=>d.is o)=σ P:=(by first|exact⟨_,O,by simp[mF,bs,f,i,j,r,E,O]⟩|exact⟨_,E,by simp[mF,bs,f,i,j,r,E]⟩|exact⟨_,r,by simp[mF,bs,f,i,j,r]⟩|exact⟨_,j,by simp[mF,bs,f,i,j]⟩|exact⟨_,i,by simp[mF,bs,f,i]⟩|exact⟨_,f,by simp[mF,bs,f]⟩);have F:=Yk _ N;have⟨A,Q,e5⟩:=n.live X;have HT:=ak (HW.J P X);have qd:=u.bz;rw[tI A]at qd;clear X N;go_wp2_with(go_at_call 33;refine(n.is _).mono ?_;rintro Y w' ⟨rfl,rfl⟩);refine(n.aK Q).mono ?_;rintro B w2 ⟨rfl,C,T⟩;go_wp2_with fail;refine(hl o w2 p c Z d.aK n1 C hd (by omega)).mono ?_;rintro B w3 ⟨v3,n3,ab,rfl,K,I,H⟩;have gO:=H.bz;have al:=wD (gU (lvl l) d.aK).2;go_wp2_with fail;refine(K.two _ _ k ab (DU H.pre D) (by omega)).mono ?_;rintro B w4 ⟨v4,rfl,M,U⟩;go_wp2;go_ret;refine⟨v4,n3++[⟨t,aa,y.first,k,ab,0,⟨#[]⟩⟩],Λ n3,rfl,?_⟩;rw[F.J,<- HT.J,<- HI.J A];exact⟨M,R.trans (T.trans (I.trans U)),u.two A e5 H (DU H.pre D)⟩
def mV(ns:Δ cz)(k f:Nat):Δ cz:=ns.modify k (λv=>{ v with first:=f })
theorem TX(ns:Δ cz)(k l:Nat)(r:k<Λ ns):kZ (mV ns k l)=(kZ ns).set (k*7+2) (ι κ l):=by
 unfold mV;refine dr λq=>?_;rw[bK];obtain⟨f,d,i,rfl⟩:∃f d,d<7/\q=f*7+d:=⟨q / 7,q % 7,Nat.mod_lt _ (by decide),by omega⟩;rw[Cu _ f d i,Cu _ f d i,Tt,pq];by_cases n:k=f
 .subst n;rw[af r];by_cases j:d=2;{subst j;rw[aN rfl,aN (by omega)];simp[uf]}
  rw[aH (by omega)]
  simp only[if_true,Option.map_eq_map,Option.map_some,Option.bind_some]
  match d,i,j with
  |0,_,_=>rfl
  |1,_,_=>rfl
  |3,_,_=>rfl
  |4,_,_=>rfl
  |5,_,_=>rfl
  |6,_,_=>rfl
 rw[aH (by omega)];simp[n]
theorem P8(ns:Δ cz)(k d:Nat):Nq ns (mV ns k d):=λj v i=>by
 unfold mV;rw[pq,i];by_cases f:k=j
 . exact⟨d,by simp[f]⟩
 . exact⟨v.first,by simp[f]⟩
theorem Nr{ns nN:Δ cz}{k:Nat}(f:ns <+: nN)(j:Λ ns<=k):ns <+: mV nN k n:=by rw[List.prefix_iff_eq_take]at f ⊢;refine dr λd=>?_;rw[dL];split;{have i:¬k=d:=(by omega);unfold mV;rw[pq];simp only[if_neg i];rw[show ns[d]?=(nN.take (Λ ns))[d]? from bI (·[d]?) f,dL,aN ‹_›];cases nN[d]?<;>rfl};rw[bM (by omega)]
def ab3(e:Ex)(pl:Nat)(op:Γ)(n:Int)(s:Γ):Prop:=∀(N:Δ cz) (q:Nat) (y:cz),N[q]?=σ y->y.op=op/\y.n=n/\y.s=s/\y.pl=pl->OD N q e
section
variable {o:ω×υ} {w w':ω} {p:Nat} {c:gN} {v:υ} {m:aD} {ns:Δ cz}
theorem aoi{sub:Option BJ}{k:Nat}{t:Γ}(B:m.cZ)(C:¬m.is du=true)(l:oM k t d m.tk) :
 ((∃e,kO sub m=(e,m.aK)/\((((k:Int)==110)=true/\ab3 e m.cE M9 d t)\/(((k:Int)==110)=false/\((k:Int)==115)=true/\ab3 e m.cE E0 d t)\/(((k:Int)==110)=false/\((k:Int)==115)=false/\((k:Int)==97)=true/\ab3 e m.cE Cw d t)\/
   (((k:Int)==110)=false/\((k:Int)==115)=false/\((k:Int)==97)=false/\((k:Int)==119)=true/\(t.toList==[116,114,117,101])=true/\ab3 e m.cE wU 1 t)\/
   (((k:Int)==110)=false/\((k:Int)==115)=false/\((k:Int)==97)=false/\((k:Int)==119)=true/\(t.toList==[116,114,117,101])=false/\(t.toList==[102,97,108,115,101])=true/\ab3 e m.cE wU d t)))/\∀t A,m=.live t A->t.k.ends=false)\/
 ((kO sub m).2=m.cQ 2/\((((k:Int)==110)=false/\((k:Int)==115)=false/\((k:Int)==97)=false/\((k:Int)==119)=false)\/
   (((k:Int)==110)=false/\((k:Int)==115)=false/\((k:Int)==97)=false/\((k:Int)==119)=true/\(t.toList==[116,114,117,101])=false/\(t.toList==[102,97,108,115,101])=false))):=by
 have n:kO sub m=_:=aH C;have f:∀a:Int,(k:Int)≠a->((k:Int)==a)=false:=λa l=>by rw[aY];exact l
 cases m with|dead _ _=>exact B.elim|live tk A=>obtain⟨E,F⟩:=tk;cases E<;>simp only[oM,aD.tk]at l;(case num=>exact .inl ⟨⟨_,n,.inl ⟨by rw[dR];omega,λr q y j i=>⟨y,j,i.1,i.2.1.trans l.2⟩⟩⟩,λ_ _ e=>by cases e;rfl⟩);(case str=>exact .inl ⟨⟨_,n,.inr (.inl ⟨f _ (by omega),by rw[dR];omega,λr q y j i=>⟨y,j,i.1,i.2.2.1.trans l.2⟩⟩)⟩,λ_ _ e=>by cases e;rfl⟩);(case aI=>exact .inl ⟨⟨_,n,.inr (.inr (.inl ⟨f _ (by omega),f _ (by omega),by rw[dR];omega,λr q y j i=>⟨y,j,i.1,i.2.2.1.trans l.2,i.2.2.2⟩⟩))⟩,λ_ _ e=>by cases e;rfl⟩);(case cU s=>have u:((k:Int)==119)=true:=(by rw[dR];omega);have D:=l.2.1;subst D;cases hT:ct t FN;{cases hF:ct t zP;{exact .inr ⟨by rw[n];simp only[aD.tk,hT,hF];rfl,.inr ⟨f _ (by omega),f _ (by omega),f _ (by omega),u,by rw[bX];exact hT,by rw[bX];exact hF⟩⟩};exact .inl ⟨⟨.bool false,by rw[n];simp only[aD.tk,hT,hF];rfl,.inr (.inr (.inr (.inr ⟨f _ (by omega),f _ (by omega),f _ (by omega),u,by rw[bX];exact hT,by rw[bX];exact hF,λr q y j i=>⟨y,j,i.1,i.2.1.trans l.2.2⟩⟩)))⟩,λ_ _ e=>by cases e;rfl⟩};exact .inl ⟨⟨.bool true,by rw[n];simp only[aD.tk,hT];rfl,.inr (.inr (.inr (.inl ⟨f _ (by omega),f _ (by omega),f _ (by omega),u,by rw[bX];exact hT,λr q y j i=>⟨y,j,i.1,i.2.1⟩⟩)))⟩,λ_ _ e=>by cases e;rfl⟩);all_goals exact .inr ⟨by rw[n];rfl,.inl ⟨f _ (by omega),f _ (by omega),f _ (by omega),f _ (by omega)⟩⟩
theorem CN{a b c e d g:υ}{t:TypeId}(f:w.heap[n]?=σ (ξ #[a,b,c,l,e,d,g] t (0,0))) :
 Ξ w ⟨n,0,ν⟩=σ a/\Ξ w ⟨n,1,ν⟩=σ b/\Ξ w ⟨n,2,ν⟩=σ c/\Ξ w ⟨n,3,ν⟩=σ l/\Ξ w ⟨n,4,ν⟩=σ e/\Ξ w ⟨n,5,ν⟩=σ d/\Ξ w ⟨n,6,ν⟩=σ g:=by simp[World.cell?,f]
theorem LY(r:Nat)(d:Rd o w p c v m ns)(hf:Λ ns+m.len<=600)(qe:m.is (ByteArray.mk #[40])=false):Calls prog 237 #[π (σ ⟨p,0,ν⟩)] w λn w'=>∃(v':υ) (nN:Δ cz) (k:Nat),n=τ (ι κ k)/\Rd o w' p c v' (kO (lvl r) m).2 nN/\Fq p v v' w w'/\Bd m (kO (lvl r) m).2 ns nN k (kO (lvl r) m).1:=by
 obtain⟨k,t,i,R,c2,c3,c4,c5,P,_,M,_⟩:=d.tok;obtain⟨e,c6,he⟩:=d.err;have cK:=d.lt;rcases he with⟨f,e0⟩|⟨f,e0⟩
 .rcases aoi (sub:=lvl r) f (by show¬m.is (ByteArray.mk #[40])=true;rw[qe];decide) (M.J f)with⟨⟨ex,E,K⟩,Q⟩|⟨E,K⟩
  .rw[E];have hl:=d.auE f Q;have O:=ak (P.J f);clear E M f;rcases K with⟨l,j⟩|⟨l,F,j⟩|⟨l,F,H,j⟩|⟨l,F,H,N,T,j⟩|⟨l,F,H,N,T,k6,j⟩
   all_goals have V:=ak j;clear j;go_in;go_wp2_with(go_at_call 33;refine((d.start.xb _ _ _ _).rd.is _).mono ?_;rintro r' w' ⟨rfl,rfl⟩);refine((d.start.xb _ _ _ _).rd.aK Q).mono ?_;rintro n w1 ⟨rfl,B,I⟩;have S:=(d.start.xb _ _ _ _).call B I;obtain⟨Y,Z,d2,d3,d4,d5,d6⟩:=CN (S.box (i:=0) rfl).1;go_wp2_with fail;refine(B.node ⟨_,i,i,0,0,_,t⟩ (by omega)).mono ?_;rintro n U ⟨G,rfl,C,u⟩;go_wp2_with fail;go_ret;obtain⟨D,A⟩:=(S.call C u).fin d;exact⟨G,_,Λ ns,rfl,D,A,Bd.node (kN _) (by omega) λ_=>⟨O.J,λX _ hy=>V.J X _ _ hy ⟨rfl,rfl,rfl,O.J⟩⟩⟩
  rw[E];clear E M f;rcases K with⟨l,F,H,N⟩|⟨l,F,H,N,T,k6⟩
  all_goals go_in;go_wp2_with(go_at_call 33;refine((d.start.xb _ _ _ _).rd.is _).mono ?_;rintro r' w' ⟨rfl,rfl⟩);refine((d.start.xb _ _ _ _).rd.fail 2 i (by decide) P).mono ?_;rintro n w1 ⟨rfl,B,I⟩;have S:=(d.start.xb _ _ _ _).call B I;obtain⟨Y,Z,d2,d3,d4,d5,d6⟩:=CN (S.box (i:=0) rfl).1;go_wp2_with fail;refine(B.node ⟨_,i,i,0,0,R,t⟩ (by omega)).mono ?_;rintro n U ⟨G,rfl,C,u⟩;go_wp2_with fail;go_ret;obtain⟨D,A⟩:=(S.call C u).fin d;exact⟨G,_,Λ ns,rfl,D,A,Bd.dead (ez m 2)⟩
 have hs:(kO (lvl r) m).2=m:=(by cases m with|live t ts=>exact absurd trivial f|dead e b=>rfl);rw[hs];go_in;go_wp2_with fail;refine((d.start.xb _ _ _ _).rd.node ⟨⟨#[]⟩,i,i,0,0,R,t⟩ (by omega)).mono ?_;rintro n U ⟨G,rfl,C,u⟩;go_wp2_with fail;go_ret;obtain⟨D,A⟩:=((d.start.xb _ _ _ _).call C u).fin d;exact⟨G,_,Λ ns,rfl,D,A,Bd.dead f⟩
theorem Rd.first{g cap k:Nat}(r:Rd o w p c (ψ (σ (Ad g 0)) (Λ ns) cap) m ns)(j:k<Λ ns)(d:Nat):Rd o (w.setCell (Ad g (k*7+2)) (ι κ d)) p c (ψ (σ (Ad g 0)) (Λ ns) cap) m (mV ns k d)/\Fq p (ψ (σ (Ad g 0)) (Λ ns) cap) (ψ (σ (Ad g 0)) (Λ ns) cap) w (w.setCell (Ad g (k*7+2)) (ι κ d)):=by obtain⟨x,q,l,f⟩:=r.ex;have D:=TX ns k d j;rw[<- f]at q ⊢;have C:¬Oth p x.gp w g:=q.kv g (by rw[f];rfl);have A:g≠p:=λe=>q.apart (by rw[f,e];rfl);have i:bu (Oth p x.gp w) w (w.setCell (Ad g (k*7+2)) (ι κ d)):=(bu.refl _ w).setCell (p:=(Ad g (k*7+2))) C _;have n:=q.own;rw[f]at n;obtain⟨E,_⟩:=n.stored (k*7+2) (ι κ d);have B:Rd o w p c x.gp m ns:=f ▸ r;have F:jz (Oth p x.gp w) (w.setCell (Ad g (k*7+2)) (ι κ d)) p x m (mV ns k d):=⟨q.pen.kY (aL _ _ _ _ (Ne.symm A)),λu s l=>(i.cell (p:=(Ad 0 u)) q.k0).trans (q.laid u s l),q.p0,q.DC,q.pos,q.tk,q.tn,q.tp,q.mode,by rw[show(mV ns k d).length=Λ ns by simp[mV],D,f];exact E,q.apart,q.k0,q.kp,q.kv,λk j=>aw (q.old k j) i.size⟩;exact B.step l F i
theorem Yl{m:aD}{s:Γ}(d:¬m.cZ):m.take s=m:=by cases m with|live t f=>exact absurd trivial d|dead e b=>rfl
theorem kI{m:aD}{s:Γ}(d:(m.take s).cZ):m.cZ:=by cases m with|live t f=>trivial|dead e b=>exact d
theorem Bd.ah9{m f:aD}{ns i:Δ cz}{k:Nat}{e:Ex}(s:Γ)(b:Bd m.aK f ns i k e)(B:m.aK.len+1=m.len)(r:n=m.cE):Bd m (f.take s) ns (mV i k n) k e:=by
 have l:=b.bz;have j:(mV i k n).length=Λ i:=by simp[mV]
 refine⟨Nr b.pre b.lo,b.lo,by rw[j];exact b.hi,?_,λd=>⟨(b.rep (kI d)).1.mono (P8 _ _ _),?_⟩⟩;{rw[j];by_cases d:f.cZ;{have A:=take_len f s;rw[tI d]at l;omega};rw[Yl d];omega};obtain⟨x,u,-⟩:=(b.rep (kI d)).2;exact⟨{ x with first:=n },by unfold mV;rw[pq,u];simp,r⟩
theorem P9{a b c:υ}{t:TypeId}(d:w.heap[n]?=σ (ξ #[a,b,c,l] t (0,0))):Ξ w (Ad n 0)=σ a/\Ξ w (Ad n 1)=σ b/\Ξ w (Ad n 2)=σ c/\Ξ w (Ad n 3)=σ l:=by simp[World.cell?,d]
theorem Ym:PF 237 kO 0:=by intro o w p c v m ns d Y C;cases LD:m.is (ByteArray.mk #[40]);{exact LY 0 d C LD};obtain⟨k,t,j,D,G,H,I,K,Z,_,_,_⟩:=d.tok;obtain⟨e,M,B⟩:=d.err;have X:((e:Int)==0)=true:=(by rcases B with f|f;{exact f.2};exact absurd (d.live LD).1 f.1);have N:=d.lt;rw[show kO (lvl 0) m=(.junk,m.cQ 3)from aN LD];go_in;go_wp2_with(go_at_call 33;refine((d.start.xb _ _ _ _).rd.is _).mono ?_;rintro r' w' ⟨rfl,rfl⟩);refine((d.start.xb _ _ _ _).rd.PY (by omega)).mono ?_;rintro E w1 ⟨rfl,i,l⟩;have S:=(d.start.xb _ _ _ _).call i l;obtain⟨O,P,Q,R,T,U,V⟩:=CN (S.box (i:=0) rfl).1;go_wp2_with fail;refine(i.node ⟨⟨#[]⟩,j,j,0,0,D,t⟩ (by omega)).mono ?_;rintro E w2 ⟨F,rfl,u,n⟩;go_wp2_with fail;go_ret;obtain⟨A,r⟩:=(S.call u n).fin d;exact⟨F,_,Λ ns,rfl,A,r,Bd.dead (ez m 3)⟩
theorem Yn(f:Nat)(hx:PF 57 ny f):PF 237 kO (f+1):=by
 intro o w p c v m ns d hd hf;cases LD:m.is (ByteArray.mk #[40]);{exact LY (f+1) d hf LD}
 obtain⟨k,t,aa,ad,T,U,V,X,hi,_,_,_⟩:=d.tok;obtain⟨e,Y,he⟩:=d.err;obtain⟨D,Z,E⟩:=d.live LD;have e0:((e:Int)==0)=true:=(by rcases he with u|u;{exact u.2};exact absurd D u.1);have cK:=d.lt;have C:=ak (hi.J D);have hs:kO (lvl (f+1)) m=((ny (lvl f) m.aK).1,(ny (lvl f) m.aK).2.take fK):=aN LD;rw[hs];go_in;go_wp2_with(go_at_call 33;refine((d.start.xb _ _ _ _).rd.is _).mono ?_;rintro r' w' ⟨rfl,rfl⟩);refine((d.start.xb _ _ _ _).rd.down Z (by omega)).mono ?_;rintro O w1 ⟨rfl,F,f1⟩;have P:=(d.start.xb _ _ _ _).call F f1;clear T U V X Y;go_wp2_with fail;refine(hx _ w1 p _ v m.aK ns F (by show c.deep+1+f=8;omega) (by omega)).mono ?_;rintro O w3 ⟨v3,N,l,rfl,G,f3,i⟩;go_wp2_with fail;refine(G.take _).mono ?_;rintro O w4 ⟨_,rfl,A,f4,-⟩;have n:=(P.call G f3).call A f4;obtain⟨M,-,ac⟩:=n.box (i:=1) rfl;obtain⟨_,_,t2,_⟩:=P9 M;obtain⟨c8,z8,H,f5⟩:=A.up;obtain⟨y,K⟩:∃y,N[l]?=σ y:=⟨_,af i.hi⟩;obtain⟨g,cap,rfl,ab,Kv,zf,cf⟩:=A.ab0 K;have g1:(l:Int)<Λ N:=by have:=i.hi;omega
 have I:=(n.ok _ (.tail _ (.head _))).2 _ rfl;have nA:g≠w.heap.size:=λe=>I.2 (bI σ e);obtain⟨h6,f6⟩:=H.first i.hi aa;have Q:=(n.call H f5).call h6 f6;have R:=ak Q;clear I M K;go_wp2_with fail;go_region;all_goals
  go_wp2_with fail;go_ret;have j:=R.J;first
   | (obtain⟨B,r⟩:=j.fin d;exact⟨_,_,l,rfl,B,r,i.ah9 _ E C.J⟩)
   | (obtain⟨B,r⟩:=(j.call j.rd.drew.1 j.rd.drew.2).fin d;exact⟨_,_,l,rfl,B,r,i.ah9 _ E C.J⟩)
theorem Yo(d:Nat):PF 223 jL d/\PF 120 jQ d/\PF 57 ny d:=by induction d with|zero=>have i:=(G9 0).1 Ym;have f:=(G9 0).2.2.1 (P7 0 (LX 0 (LW 0 i)));exact⟨i,f,P0 0 (PZ 0 f)⟩|succ d j=>have i:=(G9 d).2.1 (Yn d j.2.2) j.1;have f:=(G9 d).2.2.2 (P7 (d+1) (LX (d+1) (LW (d+1) i))) j.2.1;exact⟨i,f,P0 (d+1) (PZ (d+1) f)⟩
theorem Ns:PF 57 ny 8:=(Yo 8).2.2
end
theorem py{j:Type}{one:aD->j×aD}(i:∀m,(one m).2.len<=m.len)(m:aD):(de one m).2.len<=m.len:=by have more:∀(d:Nat) (f:Δ j) (q:aD),(lF one d f q).2.len<=q.len:=(by intro d;induction d with|zero=>(intro f q;exact ae _)|succ d l=>intro f q;rw[lF];split;{exact ay (l _ _) (ay (i q.aK) dX)};exact ae _);exact ay (more _ _ _) (i m)
theorem E8(m:aD):(fL m).2.len<=m.len:=py eQ m
theorem Bc(m:aD):(gF m).2.len<=m.len:=by
 have d:m.aK.len<=m.len:=dX;have f:m.aK.aK.len<=m.aK.len:=dX;have i:=(qi (ez m 2)).1;have j:=(qi (ez m.aK 2)).1;unfold gF;repeat' split
 all_goals(simp only;omega)
theorem DW(m:aD):(qN m).2.len<=m.len:=by have d:m.aK.len<=m.len:=dX;unfold qN;split;{exact d};split;{exact d};exact take_len m OY
theorem vK(m:aD):(dT m).2.len<=m.len:=by unfold dT;show(if m.aI.2.is Lx then m.aI.2.aK else m.aI.2).len<=m.len;split;{exact ay dX (eQ m)};exact eQ m
theorem LZ{f:Δ oE}{m:aD}{i:Δ oE×aD}(d:nz (n+1) f m=i)(j:m.is du=true):nz n (f++[(kj m).1]) (kj m).2=i:=by rw[nz,aN j]at d;exact d
theorem L0{d:Δ oE}{m:aD}(f:m.is du=false):nz n d m=(d,m):=by cases n with|zero=>rfl|succ n=>rw[nz,aH (by rw[f];decide)]
theorem Ae(m:aD):(kj m).2.len<=(m.take du).len:=ay (take_len _ _) (py Bc _)
theorem FX{f:Δ dz}{m:aD}{i:Δ dz×aD}(d:jc (n+1) f m=i)(j:m.is Xq=true):jc n (f++[(eE m.aK).1]) (eE m.aK).2=i:=by rw[jc,aN j]at d;exact d
theorem FY{d:Δ dz}{m:aD}(f:m.is Xq=false):jc n d m=(d,m):=by cases n with|zero=>rfl|succ n=>rw[jc,aH (by rw[f];decide)]
theorem Tryz.DX:(prog.info? 34).map (λd=>(d.zero,d.size,d.bytes))=σ (σ (.agg #[θ ByteArray.empty,ι κ 0]),2,24):=by kernel_rfl
theorem xd{w:ω}{d:Obj}(f:n=w.heap.size):(w.alloc d).heap[n]?=σ d:=f ▸ az w d
theorem ly{w:ω}{a b:υ}{t:TypeId}(d:w.heap[n]?=σ (ξ #[a,b] t (0,0))):Ξ w (Ad n 0)=σ a/\Ξ w (Ad n 1)=σ b:=⟨bB d 0,bB d 1⟩
theorem vL{w:ω}{a b c e:υ}{t:TypeId}(d:w.heap[n]?=σ (ξ #[a,b,c,l,e] t (0,0))):Ξ w (Ad n 0)=σ a/\Ξ w (Ad n 1)=σ b/\Ξ w (Ad n 2)=σ c/\Ξ w (Ad n 3)=σ l/\Ξ w (Ad n 4)=σ e:=⟨bB d 0,bB d 1,bB d 2,bB d 3,bB d 4⟩
section
variable {o:ω×υ} {w w':ω} {p:Nat} {c:gN} {v:υ} {m:aD} {ns:Δ cz} {L:Δ It}
theorem Rd.kind(d:Rd o w p c v m ns):Calls prog 54 #[π (σ ⟨p,0,ν⟩)] w λf w'=>f=τ (ι κ ((qN m).1:Nat))/\Rd o w' p c v (qN m).2 ns/\Fq p v v w w':=by
 cases i0:m.is (ByteArray.mk #[105,110,116]);case' false=>cases i1:m.is (ByteArray.mk #[115,116,114])
 case' false.false=>rw[show qN m=(2,m.take OY)from(aH (by show¬m.is (ByteArray.mk #[105,110,116])=true;rw[i0];decide)).trans (aH (by show¬m.is (ByteArray.mk #[115,116,114])=true;rw[i1];decide))]
 case' false.true=>rw[show qN m=(1,m.aK)from(aH (by show¬m.is (ByteArray.mk #[105,110,116])=true;rw[i0];decide)).trans (aN i1)]
 case' true=>rw[show qN m=(0,m.aK)from aN i0]
 all_goals
  go_in;go_wp2_with(go_at_call 33;refine(d.is _).mono ?_;rintro l w' ⟨rfl,rfl⟩);first
   | (refine(d.take _).mono ?_;rintro f j ⟨_,rfl,q,i,-⟩)
   | (refine(d.aK (d.live i1).2.1).mono ?_;rintro f j ⟨rfl,q,i⟩)
   | (refine(d.aK (d.live i0).2.1).mono ?_;rintro f j ⟨rfl,q,i⟩)
  go_wp2_with fail;go_ret;exact⟨rfl,q,i⟩
theorem St.bJ(n:St o w p c v m ns L)(Z:m.len<=600):Calls prog 56 #[π (σ ⟨p,0,ν⟩)] w λj w'=>∃a k,j=τ (ψ a (fL m).1.length k)/\St o w' p c v (fL m).2 ns (.inr (ψ a (fL m).1.length k,34,2,(fL m).1.length,iA (fL m).1)::L)/\(fL m).1.length+(fL m).2.len<=m.len+1:=by
 go_in;go_wp2_with fail;refine n.rd.aI.mono ?_;rintro j R ⟨rfl,K,G⟩;have C:=((n.call K G).xb #[θ m.aI.1.1,ι κ m.aI.1.2] 34 #[θ m.aI.1.1,ι κ m.aI.1.2] 34).one (z:=2) rfl;have T:=eQ m;go_wp2_with fail;go_loopw[4] (λs wr=>∃(m':aD) (f:Δ Nm) (d:Nat) (a b:υ),St o wr p c v m' ns (.inr (s,34,2,Λ f,iA f)::.inl (R.heap.size,#[a,b],34)::L)/\m'.len<=d/\(Λ f)+m'.len<=m.len+1/\Hid (lF aD.aI d f m'=fL m)) (λs _=>2000 - lenOf s);case atStart=>exact⟨_,[m.aI.1],_,_,_,C,ae _,by simp;omega,ak rfl⟩
 case round=>obtain⟨m',f,d,a,b,S,Y,A,l⟩:=hrel;obtain⟨P,Q,rfl⟩:=S.slice (i:=0) rfl;cases ic:m'.is (ByteArray.mk #[44]);{have B:=ak ((qR (show m'.is qA=false from ic)).symm.trans l.J);go_wp2_with(go_at_call 33;refine(S.rd.is _).mono ?_;rintro N w' ⟨rfl,rfl⟩);go_ret;rw[<- B.J];exact⟨P,Q,rfl,S.swap.drop,A⟩};obtain⟨V,F,X⟩:=S.rd.live ic;obtain⟨d,rfl⟩:∃g,d=g+1:=⟨d - 1,by omega⟩;have O:=ak (sG l.J (show m'.is qA=true from ic));go_wp2_with(go_at_call 33;refine(S.rd.is _).mono ?_;rintro N w' ⟨rfl,rfl⟩);refine(S.rd.aK F).mono ?_;rintro j w2 ⟨rfl,u,H⟩;go_wp2_with fail;refine u.aI.mono ?_;rintro j w3 ⟨rfl,M,I⟩;have r:=(S.call u H).call M I;obtain⟨i,-,-⟩:=r.box (i:=1) rfl;obtain⟨t0,t1⟩:=ly i;have z0:=jd i 0;have z1:=jd i 1;have U:=eQ m'.aK;have D:=(((r.swap.put 0 (θ m'.aK.aI.1.1)).put 1 (ι κ m'.aK.aI.1.2)).swap).alloc (ξ #[θ m'.aK.aI.1.1,ι κ m'.aK.aI.1.2] 34);clear i;go_wp2_with(at_builtin;refine D.push rfl _ _ 35 rfl underlying35 Tryz.DX ⟨rfl,by decide,by decide⟩ rfl rfl (xd (by simp[World.setCell])) rfl (by simp[Value.oneCell']) (by omega) ?_);intro g cap w5 E;go_wp2_with fail;go_roundw;(case rel=>exact⟨_,f++[m'.aK.aI.1],d,_,_,by simpa[iA,rG]using E,by omega,by simp;omega,O⟩);case measure=>simp[lenOf];omega
end
theorem CO(m:aD)(e:Nat):(m.cQ e).aK=m.cQ e:=by cases m<;>rfl
theorem E9{m:aD}(f:¬m.cZ):∀t d,m=.live t d->t.k.ends=false:=λt d e=>by subst e;exact absurd trivial f
theorem mN{m:aD}(d:m.aK.cZ):m.cZ:=by cases m with|dead e b=>exact d|live t f=>trivial
theorem TY{m:aD}(d:m.cZ):m.aK.cZ:=by cases m with|dead e b=>exact d|live t f=>cases f<;>exact d
def Iq(x:xY):Δ υ:=[ι κ x.pl,ι κ x.kind,.bool x.bH,ι κ x.n,θ x.s]
section
variable {o:ω×υ} {w w':ω} {p:Nat} {c:gN} {v:υ} {m:aD} {ns:Δ cz} {L:Δ It}
theorem Nt{s:Γ}(f:m.is s=true):∀t d,m=.live t d->t.k.ends=false:=λt d e=>by subst e;exact G5 f
def aoj(m:aD)(k:Nat)(t:Γ)(j:Int):Prop:=((gF m).2=m.aK/\(∀t ts,m=.live t ts->t.k.ends=false)/\
    ((((k:Int)==110)=true/\(m.cZ->(gF m).1=⟨m.cE,0,false,j,⟨#[]⟩⟩))\/(((k:Int)==110)=false/\((k:Int)==115)=true/\(m.cZ->(gF m).1=⟨m.cE,1,false,0,t⟩))\/(((k:Int)==110)=false/\((k:Int)==115)=false/\m.is (ByteArray.mk #[116,114,117,101])=true/\(t.toList==[116,114,117,101])=true/\(m.cZ->(gF m).1=⟨m.cE,2,false,1,⟨#[]⟩⟩))\/
    (((k:Int)==110)=false/\((k:Int)==115)=false/\m.is (ByteArray.mk #[116,114,117,101])=false/\m.is (ByteArray.mk #[102,97,108,115,101])=true/\(t.toList==[116,114,117,101])=false/\(m.cZ->(gF m).1=⟨m.cE,2,false,0,⟨#[]⟩⟩))\/
    (((k:Int)==110)=false/\((k:Int)==115)=false/\m.is (ByteArray.mk #[116,114,117,101])=false/\m.is (ByteArray.mk #[102,97,108,115,101])=false/\m.is (ByteArray.mk #[110,117,108,108])=true/\(m.cZ->(gF m).1=⟨m.cE,-1,true,0,⟨#[]⟩⟩))))\/
    ((gF m).2=m.cQ 2/\((k:Int)==110)=false/\((k:Int)==115)=false/\m.is (ByteArray.mk #[116,114,117,101])=false/\m.is (ByteArray.mk #[102,97,108,115,101])=false/\m.is (ByteArray.mk #[110,117,108,108])=false)
theorem auI{k:Nat}{t:Γ}(B:m.is pN=false)(j:m.cZ->oM k t d m.tk)(A:∀s,m.is s=true->t=s):aoj m k t d:=by
 have r:gF m=_:=aH (by rw[B];decide);have n:∀a:Int,(k:Int)≠a->((k:Int)==a)=false:=λa j=>by rw[aY];exact j
 have rest:((k:Int)==110)=false->((k:Int)==115)=false->gF m=(if m.is FN then(⟨m.cE,2,false,1,ByteArray.empty⟩,m.aK)else if m.is zP then(⟨m.cE,2,false,0,ByteArray.empty⟩,m.aK)else if m.is tZ then(⟨m.cE,-1,true,0,ByteArray.empty⟩,m.aK)else(OZ,m.cQ 2))->aoj m k t d:=λi l f=>by
  cases iT:m.is FN
  . rw[aH (by rw[iT];decide)]at f
    cases iF:m.is zP
    . rw[aH (by rw[iF];decide)]at f
      cases iN:m.is tZ
      . rw[aH (by rw[iN];decide)]at f
        exact .inr ⟨by rw[f],i,l,iT,iF,iN⟩
      . rw[aN iN]at f
        exact .inl ⟨by rw[f],Nt iN,.inr (.inr (.inr (.inr ⟨i,l,iT,iF,iN,λ_=>by rw[f];rfl⟩)))⟩
    . rw[aN iF]at f
      exact .inl ⟨by rw[f],Nt iF,.inr (.inr (.inr (.inl ⟨i,l,iT,iF,by rw[A _ iF,bX];rfl,λ_=>by rw[f];rfl⟩)))⟩
  . rw[aN iT]at f
    exact .inl ⟨by rw[f],Nt iT,.inr (.inr (.inl ⟨i,l,iT,by rw[A _ iT,bX];rfl,λ_=>by rw[f];rfl⟩))⟩
 cases m with|dead e b=>(by_cases i:(k:Int)=110;{exact .inl ⟨rfl,λ_ _ e=>(by cases e),.inl ⟨by rw[dR];exact i,λj=>j.elim⟩⟩};by_cases l:(k:Int)=115;{exact .inl ⟨rfl,λ_ _ e=>(by cases e),.inr (.inl ⟨n _ i,by rw[dR];exact l,λj=>j.elim⟩)⟩};exact rest (n _ i) (n _ l) r)|live tk E=>have u:=j trivial;obtain⟨C,D⟩:=tk;cases C<;>simp only[oM,aD.tk]at u;(case num=>exact .inl ⟨by rw[r];rfl,λ_ _ e=>(by cases e;rfl),.inl ⟨by rw[dR];omega,λ_=>by rw[r,u.2];rfl⟩⟩);(case str=>exact .inl ⟨by rw[r];rfl,λ_ _ e=>(by cases e;rfl),.inr (.inl ⟨n _ (by omega),by rw[dR];omega,λ_=>by rw[r,u.2];rfl⟩)⟩);all_goals exact rest (n _ (by omega)) (n _ (by omega)) r
theorem auJ{m:aD}{k:Nat}{t:Γ}(l:m.is pN=true)(f:oM k t d m.aK.tk):(((k:Int)==110)=true/\gF m=(⟨m.cE,0,false,-d,⟨#[]⟩⟩,m.aK.aK)/\0<=d/\∀t j,m.aK=.live t j->t.k.ends=false)\/(((k:Int)==110)=false/\(gF m).2=m.aK.cQ 2):=by
 have i:gF m=_:=aN l;cases hk:m.aK.tk<;>(rw[hk]at f i;simp only[oM]at f);case num=>exact .inl ⟨by rw[dR];omega,by rw[i,f.2];rfl,by omega,λt j e=>by rw[e]at hk;have n:t.k=_:=hk;rw[n];rfl⟩
 all_goals exact .inr ⟨by rw[aY];omega,by rw[i]⟩
theorem Rd.value(d:Rd o w p c v m ns):Calls prog 55 #[π (σ (Ad p 0))] w λj w'=>
 ∃x:xY,j=τ (.agg #[ι κ x.pl,ι κ x.kind,.bool x.bH,ι κ x.n,θ x.s])/\Rd o w' p c v (gF m).2 ns/\Fq p v v w w'/\Hid ((gF m).2.cZ->x=(gF m).1):=by
 obtain⟨k,t,P,ad,c2,c3,c4,c5,H,_,ht,hw⟩:=d.tok;have cK:=d.lt;cases I:m.is (ByteArray.mk #[45]);case' false=>
  rcases auI I ht.J hw.J with⟨u,G,⟨r,f⟩|⟨r,D,f⟩|⟨r,D,K,tT,f⟩|⟨r,D,K,Q,tT,f⟩|⟨r,D,K,Q,iN,f⟩⟩|⟨u,r,D,K,Q,iN⟩;all_goals
   go_in;go_wp2_with(go_at_call 33;refine((d.start.Kw _ _ _ _ _ _).rd.is _).mono ?_;rintro r' w' ⟨rfl,rfl⟩);first
    | (have i:=ak f
       clear f;refine((d.start.Kw _ _ _ _ _ _).rd.aK G).mono ?_;rintro j N ⟨rfl,n,l⟩;have S:=(d.start.Kw _ _ _ _ _ _).call n l)
    | (refine((d.start.Kw _ _ _ _ _ _).rd.fail 2 P (by decide) H).mono ?_
       rintro j w8 ⟨rfl,A,F⟩;go_wp2_with fail;refine(A.aK (E9 (ez m 2))).mono ?_;rintro j N ⟨rfl,n,l⟩;have i:=ak (ez m 2);rw[<- CO m 2]at u i;have S:=((d.start.Kw _ _ _ _ _ _).call A F).call n l)
 case' true=>
  obtain⟨e3,e4,e5⟩:=d.live I;go_in;go_wp2_with(go_at_call 33;refine((d.start.Kw _ _ _ _ _ _).rd.is _).mono ?_;rintro r' w' ⟨rfl,rfl⟩);refine((d.start.Kw _ _ _ _ _ _).rd.aK e4).mono ?_;rintro j w1 ⟨rfl,O,f1⟩;have E:=(d.start.Kw _ _ _ _ _ _).call O f1;obtain⟨k',t',i',R,b2,_,b4,b5,V,hj,aa,_⟩:=O.tok;obtain⟨T,nX,hq⟩:=E.box (i:=0) rfl;obtain⟨g0,g1,g2,g3,g4⟩:=vL T;have ag:=jd T 3;have jK:=E.rd.lt;have B:=ak λab=>E.put 3 ab;rcases auJ I (aa.J (TY e3))with⟨r,f,ac,G⟩|⟨r,u⟩;all_goals
   go_wp2_with fail;first
    | (have u:(gF m).2=m.aK.aK:=by rw[f]
       have i:=ak (bI Prod.fst f);clear f;refine((B.J _).rd.aK G).mono ?_;rintro j N ⟨rfl,n,l⟩;have S:=(B.J _).call n l)
    | (refine((B.J _).rd.fail 2 i' (by decide) V).mono ?_
       rintro j w8 ⟨rfl,A,F⟩;go_wp2_with fail;refine(A.aK (E9 (ez m.aK 2))).mono ?_;rintro j N ⟨rfl,n,l⟩;have i:=ak (ez m.aK 2);rw[<- CO m.aK 2]at u i;have S:=((B.J _).call A F).call n l)
 all_goals
  obtain⟨U,-,-⟩:=S.box (i:=0) rfl;obtain⟨M,-,-⟩:=S.box (i:=2) rfl;obtain⟨g0,g1,g2,g3,g4⟩:=vL U;obtain⟨X,Y,Z,d3,d4⟩:=vL M;have zz:=jd M;clear U M;go_wp2_with fail;refine aE (by simp[results,results55,go_sem,X,Y,Z,d3,d4];rfl) rfl ?_;rw[u];obtain⟨q1,q2⟩:=(((((S.rot.rot.put 0 _).put 1 _).put 2 _).put 3 _).put 4 _).fin d;refine⟨⟨P,_,_,_,_⟩,rfl,q1,q2,ak λC=>?_⟩;first
   |exact absurd C i.J
   | (rw[i.J (mN C),<- H.J (mN C)])
   | (rw[i.J,<- H.J (mN (mN C)),show wrap64 (-R)=-R by unfold wrap64;unfold dK at hj;omega])
end
