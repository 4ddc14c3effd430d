import Derived.Test.YtfeckmaleonjjaaGreatDoorFCA
import Derived.OrdersHeld
set_option maxHeartbeats 0
set_option maxRecDepth 100000
namespace Go.Proofs.YtfeckmaleonjjaaGreatDoor
open Go.RowKit
open _root_.Go.Proofs.Tryz
open Option renaming some→σ,none→ν
open Go.IntKind renaming i64→κ
open Go.Ending renaming returned→τ
open Go.Obj renaming cells→ξ
open Go renaming World→ω,Value→υ
open Go.RowKit renaming Below→δ
open Go.Value renaming int→ι,string→θ,pointer→π
variable{p r u:Nat}{m k:υ}{x:Array Bool}{v:ω}{n:Nat->Bool}{l:ω->Prop}{i:TypeId}{t:Nat->υ}{s:Nat->Prop}
def me(P:Program)(o:Oper)(ρ:Operand->υ)(w:ω)(R:υ->ω->Prop):Prop:=
 match(execOp ρ o).run P w with
 |.ok (.value v) w'=>R v w'
 |.ok .skip w'=>R undef w'
 |.ok (.enter f args) w'=>Calls P f args w' λe w''=>∃v,e=τ v/\R v w''
 |.ok (.row r args) w'=>Rows P r args w' R
 |_=>False
section
variable {P:Program} {o:Oper} {ρ:Operand->υ} {ops:Array Oper} {a:Act} {w:ω} {K:Act->ω->Prop} {Q:Exit->Act->ω->Prop} {R:υ->ω->Prop} {md:Region.Mode}
theorem me.wp(b:me P o a.eval w R)(e:∀c d,R c d->K (a.put o.dst c) d):o.wp P a w K Q:=by
 unfold Oper.wp;unfold me at b;generalize (execOp a.eval o).run P w=r at *;cases r with
 |ok i d=>
  cases i<;>simp only[Oper.upon]at b ⊢<;>first
   |exact e _ _ b
   |exact b.mono (λk j g=>by obtain⟨c,rfl,f⟩:=g;exact e _ _ f)
   |exact Rows.mono b (λc j f=>e _ _ f)
   |exact b.elim
 |halt l d=>exact b.elim
theorem dU{v:υ}{w':ω}(b:(execOp ρ o).run P w=.ok (.value v) w')(c:R v w'):me P o ρ w R:=by unfold me;rw[b];exact c
theorem jS{b:FuncId}{i:Operand}{j:Array Operand}{k:Array TypeId}{args d:Array υ}{S:Ending->ω->Prop}(e:o.op=.call { callee:=.value i,args:=j,argTypes:=k })(r:ρ i=.func (.func b) #[] d)(p:∀(args:Array υ) (w:ω),Sem.run P (callFunc b args) w=.ok (.enter b args) w)(n:#[]++j.map ρ++d=args)
 (m:Calls P b args w S) (l:∀c g,S c g->∃f,c=τ f/\R f g):me P o ρ w R:=by have c:execOp ρ o=callFunc b args:=(by cases o;simp only at e;subst e;rw[<- n];simp only[execOp,resolve,r];rfl);unfold me;rw[c,p];exact m.mono l
def jw(ops:Array Oper)(i:Nat):Option Tmp:=(ops[i]?).bind (·.dst)
def qg(ops:Array Oper)(a:Act)(val:Nat->υ)(d:Nat->Bool):Nat->Act
 |0=>a
 |n+1=>if d n then(qg ops a val d n).put (jw ops n) (val n)else qg ops a val d n
def Td(ops:Array Oper)(a:Act)(val:Nat->υ)(n:Nat)(x:Operand):υ:=match x with
 |.tmp t=>match(List.range n).find? (λj=>jw ops j==σ t)with
   |some j=>val j
   |none=>a.eval (.tmp t)
 |x=>a.eval x
def Sk{α:Type}(f:Nat->α)(i:Nat)(v:α):Nat->α:=λj=>if j=i then v else f j
theorem oW{d:Type}(e:Nat->d)(b:Nat)(c:d):Sk e b c b=c:=aN rfl
theorem fV{c:Type}(b:Nat->c)(e:c)(d:r≠p):Sk b p e r=b r:=aH d
theorem Cp{val val':Nat->υ}{c d':Nat->Bool}:∀{n:Nat},(∀b,b<n->val b=val' b/\c b=d' b)->qg ops a val c n=qg ops a val' d' n
 |0,_=>rfl
 |n+1,h=>by
   unfold qg;rw[Cp (n:=n) (λb d=>h b (by omega)),(h n (by omega)).1,(h n (by omega)).2]
theorem EX(val:Nat->υ)(c:Nat->Bool):∀b,(qg ops a val c b).tmps.size=a.tmps.size
 |0=>rfl
 |b+1=>by
   unfold qg;split
   . have:=EX val c b
     cases jw ops b<;>simpa[Act.put]using this
   . exact EX val c b
theorem O8{val:Nat->υ}{e:Nat->Bool}{b:Nat}(i:υ)(k:e b=false):∀{n:Nat},b<n->(∀c,c<n->c≠b->∀g,jw ops c=σ g->jw ops b≠σ g)->(qg ops a val e n).put (jw ops b) i=qg ops a (Sk val b i) (Sk e b true) n
 |0,h,_=>absurd h (by omega)
 |n+1,h,jK=>by
   by_cases f:b=n
   . subst f
     unfold qg;rw[k,oW,oW,aH (by simp),aN rfl,Cp (val':=Sk val b i) (d':=Sk e b true) (λc j=>⟨(fV _ _ (yW j)).symm,(fV _ _ (yW j)).symm⟩)]
   . have m:=O8 (val:=val) (n:=n) i k (by omega) (λc j=>jK c (by omega))
     unfold qg;rw[fV _ _ (λd=>f d.symm),fV _ _ (λd=>f d.symm),<- m];split
     . exact Act.put_comm _ _ _ (λg l=>jK n (by omega) (λd=>f d.symm) g l)
     . rfl
theorem Xw{val:Nat->υ}{m:Operand}(k:∀b,b<p->∀c,jw ops b=σ c->c<a.tmps.size)(l:∀e b,e<p->b<p->e≠b->∀c,jw ops b=σ c->jw ops e≠σ c)(g:∀b,b<p->∀c,m=.tmp c->jw ops b=σ c->n b=true):(qg ops a val n p).eval m=Td ops a val p m:=by
 cases m with
 |tmp c=>
  unfold Td;simp only;have y:∀p,(∀b,b<p->∀c,jw ops b=σ c->c<a.tmps.size)->(∀b,b<p->jw ops b=σ c->n b=true)->(∀e b,e<p->b<p->e≠b->∀c,jw ops b=σ c->jw ops e≠σ c)->(qg ops a val n p).eval (.tmp c)=match(List.range p).find? (λb=>jw ops b==σ c)with
   |some b=>val b
   |none=>a.eval (.tmp c):=by
   intro p
   induction p with
   |zero=>intro _ _ _;rfl
   |succ p j=>
     intro k g l;have j:=j (λb i=>k b (by omega)) (λb i=>g b (by omega)) (λe b B i=>l e b (by omega) (by omega));rw[qz,vX];unfold qg;by_cases f:jw ops p=σ c
     . have r:(List.range p).find? (λb=>jw ops b==σ c)=ν:=by
        rw[vt];intro b i;have:=mD.mp i;intro d;exact l p b (by omega) (by omega) (by omega) c (by simpa using d) f
       rw[g p (by omega) f,aN rfl,r,f];have x:=EX (ops:=ops) (a:=a) val n p;have v:=k p (by omega) c f;simp[Act.put,Act.eval,f,x,v]
     . have s:(List.find? (λb=>jw ops b==σ c) [p])=ν:=by simp[f]
       rw[s,Option.or_none,<- j];split
       . exact yX (λC u d=>f (by cases d;exact u))
       . rfl
  exact y p k (λb i t=>g b i c rfl t) l
 |const D=>clear g;induction p with
   |zero=>rfl
   |succ p j=>unfold qg;split<;>first|(rw[yX (λ_ _ d=>by cases d)];rfl)|rfl
 |global A=>clear g;induction p with
   |zero=>rfl
   |succ p j=>unfold qg;split<;>first|(rw[yX (λ_ _ d=>by cases d)];rfl)|rfl
 |func z=>clear g;induction p with
   |zero=>rfl
   |succ p j=>unfold qg;split<;>first|(rw[yX (λ_ _ d=>by cases d)];rfl)|rfl
def Ht(n m:Nat)(d:Nat->Bool):Array Bool:=Array.ofFn (n:=n+m) λi=>decide (i.val<n)&&d i.val
theorem um{d:Nat->Bool}(b:u<p+r):(Ht p r d)[u]?=σ (decide (u<p)&&d u):=by simp[Ht,b]
theorem VQ(f:u<p):(Ht p r n).setIfInBounds u true=Ht p r (Sk n u true):=by apply vu;intro d;by_cases c:d<p+r;{rw[tX,um c,um c];by_cases b:u=d;{subst b;simp[Ht,oW,f];omega};rw[aH b,fV _ _ (λe=>b e.symm)]};rw[gE (by simp[Ht];omega),gE (by simp[Ht];omega)]
def hangs(md:Region.Mode)(ops:Array Oper):Nat->Nat->Nat->Bool
 |0,_,_=>false
 |k+1,i,j=>match ops[i]? with
   |some o=>o.after.any λe=>Region.binds md e&&(e.on==j||hangs md ops k e.on j)
   |none=>false
def O9(md:Region.Mode)(ops:Array Oper)(n m z:Nat):Bool:=
 decide (ops.size=n+m)&&Region.noSelect ops &&
 (List.range n).all (λi=>(match ops[i]? with
   |some o=>o.guard.isNone&&(o.after.all λe=>!Region.binds md e||decide (e.on<i))&&(List.range n).all λj=>match jw ops j with
     |some t=>!(o.looksAt ops).contains t||hangs md ops (n+m) i j
     |none=>true
   |none=>false)&&(match jw ops i with|some t=>decide (t<z)|none=>true)&&(List.range n).all λj=>decide (i=j)||(match jw ops j with|some t=>jw ops i != σ t|none=>true)) &&
 (List.range m).all λk=>(List.range n).all λj=>hangs md ops (n+m) (n+k) j
def ahy(ops:Array Oper)(n:Nat)(o:Oper)(p:Nat->Prop):Prop:=∀j,j<n->(match jw ops j with|some t=>(o.looksAt ops).contains t|none=>false)=true->p j
def aa4(p:Nat->Prop):Nat->Prop
 |0=>True
 |n+1=>aa4 p n/\p n
theorem aa4.get:∀{c:Nat},aa4 s c->∀b,b<c->s b
 |0,_,_,h=>absurd h (by omega)
 |c+1,h,b,hi=>by
   rcases lO b c with d|d
   . exact h.1.get b d
   . obtain rfl:b=c:=by omega
     exact h.2
def ahz(md:Region.Mode)(ops:Array Oper)(n m:Nat)(d:Nat->Bool):Prop:=∀i o,i<n->d i=true->ops[i]?=σ o->∀e∈o.after,Region.binds md e=true->(Ht n m d).getD e.on false=true
theorem aa5(b:(Ht p r n).getD u false=true):u<p/\n u=true:=by rcases lO u (p+r)with c|c;{have:=um (d:=n) c;simp only[Array.getD_eq_getD_getElem?,this,Option.getD_some,Bool.and_eq_true,decide_eq_true_eq]at b;exact b};rw[jJ,gE (by simp[Ht];omega)]at b;cases b
theorem Cq{i n:Nat}{f:Nat->Bool}(l:ahz md ops i n f):∀(e g d:Nat) (o:Oper),ops[g]?=σ o->(∀c∈o.after,Region.binds md c=true->(Ht i n f).getD c.on false=true)->hangs md ops e g d=true->d<i/\f d=true
 |0,_,_,_,_,_,b=>by simp[hangs]at b
 |e+1,g,d,o,ho,oT,b=>by
   unfold hangs at b;rw[ho]at b;obtain⟨u,p,b⟩:=Array.any_eq_true.mp b;have m:=Array.getElem_mem p;generalize o.after[u]=c at b m;simp only[Bool.and_eq_true,Bool.or_eq_true,beq_iff_eq]at b;obtain⟨s,b⟩:=b;have t:=oT c m s;obtain⟨j,k⟩:=aa5 t;rcases b with b|b
   . rw[<- b];exact⟨j,k⟩
   . cases ho':ops[c.on]? with
     |none=>unfold hangs at b;cases e<;>simp[ho']at b
     |some v=>exact Cq l e c.on d v ho' (λr x y=>l _ _ j k ho' r x y) b
def zD(d:Nat->Bool):Nat->Nat
 |0=>0
 |n+1=>zD d n+if d n then 0 else 1
theorem Pa{c:Nat->Bool}{b:Nat}(e:c b=false):∀{n:Nat},b<n->zD c n=zD (Sk c b true) n+1
 |0,h=>absurd h (by omega)
 |n+1,h=>by
   by_cases d:b=n
   . subst d
     have:∀n,n<=b->zD (Sk c b true) n=zD c n:=λn=>by
      induction n with
      |zero=>intro _;rfl
      |succ n g=>intro i;unfold zD;rw[g (by omega),fV _ _ (by omega)]
     unfold zD;rw[this b (ae _),oW,e];rfl
   . unfold zD
     rw[Pa e (n:=n) (by omega),fV _ _ (λf=>d f.symm)];omega
theorem LB{c:Nat->Bool}:∀{n:Nat},zD c n=0->∀b,b<n->c b=true
 |0,_,_,h=>absurd h (by omega)
 |n+1,h,b,hi=>by
   unfold zD at h;rcases lO b n with d|d
   . exact LB (n:=n) (by omega) b d
   . obtain rfl:b=n:=by omega
     cases hd:c b with
     |true=>rfl
     |false=>rw[hd]at h;simp at h
theorem Pb:∀b,zD (λ_=>false) b=b
 |0=>rfl
 |b+1=>by unfold zD;rw[Pb b];rfl
theorem ai6(B:Nat->υ->Nat->Nat->ω->Prop)(hc:O9 md ops p r a.tmps.size=true)
 (hE:∀b y ao C w n,B b y ao C w->δ w.heap.size w n->B b y ao C n)
 (hs:∀b,b<p->∀o,ops[b]?=σ o->∀(val:Nat->υ) (lo f:Nat->Nat) (w:ω),δ v.heap.size v w->ahy ops p o (λc=>B c (val c) (lo c) (f c) w)->me P o (Td ops a val p) w λy n=>B b y w.heap.size n.heap.size n/\δ w.heap.size w n)
 (mh:∀(val:Nat->υ) (lo f:Nat->Nat) (w:ω),δ v.heap.size v w->(∀b,b<p->B b (val b) (lo b) (f b) w/\v.heap.size<=lo b/\lo b<=f b/\f b<=w.heap.size)->(∀b c,b<p->c<p->b≠c->f b<=lo c\/f c<=lo b)->wpAny P md ops Q r (Ht p r λ_=>true) (qg ops a val (λ_=>true) p) w) :
 ∀(L:Nat) (val:Nat->υ) (lo f:Nat->Nat) (e:Nat->Bool) (w:ω),zD e p=L->ahz md ops p r e->δ v.heap.size v w->(∀b,b<p->e b=true->B b (val b) (lo b) (f b) w/\v.heap.size<=lo b/\lo b<=f b/\f b<=w.heap.size)->(∀b c,b<p->c<p->b≠c->e b=true->e c=true->f b<=lo c\/f c<=lo b)->
   wpAny P md ops Q (r+L) (Ht p r e) (qg ops a val e p) w:=by
 have Y:=hc;unfold O9 at Y;simp only[Bool.and_eq_true,decide_eq_true_eq,List.all_eq_true,List.mem_range,Bool.or_eq_true]at Y;obtain⟨⟨⟨qY,aC⟩,aa⟩,ap⟩:=Y;have hz:∀c,c<p->∀i,jw ops c=σ i->i<a.tmps.size:=λc g i l=>by have:=(aa c g).1.2;rw[l]at this;simpa using this
 have jK:∀b c,b<p->c<p->b≠c->∀i,jw ops c=σ i->jw ops b≠σ i:=λb c f g Te i l=>by
  have:=(aa b f).2 c g;rw[l]at this;simpa[Te]using this
 have qe:∀b,b<p->∃o,ops[b]?=σ o/\o.guard=ν/\(∀j∈o.after,Region.binds md j=true->j.on<b)/\∀c,c<p->∀i,jw ops c=σ i->(o.looksAt ops).contains i=true->hangs md ops (p+r) b c=true:=λb f=>by
  have:=(aa b f).1.1
  cases k:ops[b]? with
  |none=>rw[k]at this;cases this
  |some o=>
    rw[k]at this;simp only[Bool.and_eq_true,Option.isNone_iff_eq_none,List.all_eq_true,List.mem_range,Array.all_eq_true_iff_forall_mem,Bool.or_eq_true,decide_eq_true_eq]at this;refine⟨o,rfl,this.1.1,λj H t=>((this.1.2 j H).resolve_left (by simp[t])),λc g i l z=>?_⟩;have m:=this.2 c g;rw[l]at m;simp only[z]at m;simpa using m
 intro L;induction L with
 |zero=>intro val lo f e w hk X t F Z;have u:=LB hk;have e1:Ht p r e=Ht p r λ_=>true:=(by apply vu;intro c;by_cases g:c<p+r;{rw[um g,um g];by_cases ai:c<p;{rw[u c ai]};simp[ai]};rw[gE (by simp[Ht];omega),gE (by simp[Ht];omega)]);rw[e1,Cp (val':=val) (d':=λ_=>true) (λc g=>⟨rfl,u c g⟩)];exact mh val lo f w t (λb GY=>F b GY (u b GY)) (λb c D m h3=>Z b c D m h3 (u b D) (u c m))
 |succ L ih=>
  intro val lo f e w hk X t F Z;have Gr:∀b,b∈Region.ready md ops (Ht p r e)->b<p/\e b=false:=λb f=>by
   obtain⟨N,o,k,V⟩:=mem_ready.1 f;have M:=(pb.mp k).1;rw[qY]at M;have x:b<p:=by
    rcases lO b p with j|j
    . exact j
    . exfalso
      have av:∀c,c<p->e c=true:=λc g=>by
       have:=ap (b - p) (by omega) c g;rw[show p+(b - p)=b from by omega]at this;exact(Cq X _ b c o k V this).2
      have:zD e p=0:=by
       have:∀d,d<=p->zD e d=0:=λd=>by
        induction d with
        |zero=>intro _;rfl
        |succ d I=>intro T;unfold zD;rw[I (by omega),av d (by omega)];rfl
       exact this p (ae _)
      omega
   have:=um (d:=e) M;simp only[Array.getD_eq_getD_getElem?,this,Option.getD_some,x,decide_true,Bool.true_and]at N;exact⟨x,N⟩
  refine⟨λN=>?_,λb wC=>?_⟩
  .exfalso;have a3:∃b,b<p/\e b=false:=by
    apply fF;intro Tg;have:∀d,d<=p->zD e d=0:=λd=>by
     induction d with
     |zero=>intro _;rfl
     |succ d I=>
       intro T;unfold zD;rw[I (by omega)]
       cases u:e d with
       |true=>rfl
       |false=>exact absurd ⟨d,by omega,u⟩ Tg
    have:=this p (ae _);omega
   have ar:∀d,(∀b,b<d->e b=true)\/∃b,b<d/\e b=false/\∀c,c<b->e c=true:=λd=>by
    induction d with
    |zero=>exact .inl (λb f=>absurd f (by omega))
    |succ d I=>
      rcases I with C|⟨b,D,m⟩
      . cases u:e d with
        |true=>exact .inl (λb f=>by
          rcases lO b d with j|j
          . exact C b j
          . obtain rfl:b=d:=by omega
            exact u)
        |false=>exact .inr ⟨d,by omega,u,C⟩
      . exact .inr ⟨b,by omega,m⟩
   rcases ar p with C|⟨b,ag,OB,a4⟩;{obtain⟨b,D,m⟩:=a3;rw[C b D]at m;cases m}
   obtain⟨o,k,hg,oX,-⟩:=qe b ag
   have rA:b∈Region.ready md ops (Ht p r e):=mem_ready.2 ⟨by rw[jJ,um (by omega)];simp[ag,OB],o,k,λj H t=>by
    have M:=oX j H t;rw[jJ,um (by omega)];simp[a4 _ M];omega⟩
   rw[N]at rA;cases rA
  obtain⟨x,ad⟩:=Gr b wC;obtain⟨-,o,k,V⟩:=mem_ready.1 wC;obtain⟨o',am,hg,-,ax⟩:=qe b x;rw[k]at am;cases am;have aT:o.dst=jw ops b:=by simp[jw,k]
  have al:∀c,c<p->∀i,jw ops c=σ i->(o.looksAt ops).contains i=true->e c=true:=λc g i l z=>(Cq X _ b c o k V (ax c g i l z)).2;have a2:execOp (qg ops a val e p).eval o=execOp (Td ops a val p) o:=(by refine execOp_congr o (λcs a0=>Region.noSelect_spec aC b o cs a0 k) λa6 hx=>Xw hz jK λc g i a5 l=>al c g i l ?_;subst a5;simp only[List.contains_iff_mem];exact iD _ (List.mem_filterMap.2 ⟨.tmp i,by simpa using hx,rfl⟩))
  have hM:=hs b x o k val lo f w t (λc g z=>by
   cases l:jw ops c with
   |none=>rw[l]at z;cases z
   |some i=>rw[l]at z;exact(F c g (al c g i l z)).1)
  have a1:me P o (qg ops a val e p).eval w λy n=>B b y w.heap.size n.heap.size n/\δ w.heap.size w n:=by unfold me at hM ⊢;rw[a2];exact hM
  unfold wpOp;simp only[k];rw[aN (by simp[Region.wanted,hg])];refine .inl (a1.wp λy n ⟨H,U⟩=>?_);rw[aT,O8 y ad x (λc g s i l=>jK b c x g (λj=>s j.symm) i l),VQ x];refine ih (Sk val b y) (Sk lo b w.heap.size) (Sk f b n.heap.size) (Sk e b true) n (by have:=Pa ad x;omega) ?_ (t.trans (U.mono t.size)) ?_ ?_;{intro c oj g G ac j xU qZ;rw[<- VQ x];refine getD_set_true ?_;by_cases s:c=b;{subst s;rw[k]at ac;cases ac;exact V j xU qZ};rw[fV _ _ s]at G;exact X c oj g G ac j xU qZ};{intro c g G;by_cases s:c=b;{subst s;rw[oW,oW,oW];exact⟨H,t.size,U.size,ae _⟩};rw[fV _ _ s]at G;rw[fV _ _ s,fV _ _ s,fV _ _ s];obtain⟨D,m,h3,h4⟩:=F c g G;exact⟨hE _ _ _ _ _ _ D U,m,h3,ay h4 U.size⟩};intro d q T hq an ab O;by_cases E:d=b;{subst E;have A:q≠d:=λj=>an j.symm;rw[fV _ _ A]at O;rw[oW,oW,fV _ _ A,fV _ _ A];exact .inr (F q hq O).2.2.2};rw[fV _ _ E]at ab;by_cases A:q=b;{subst A;rw[oW,oW,fV _ _ E,fV _ _ E];exact .inl (F d T ab).2.2.2};rw[fV _ _ A]at O;rw[fV _ _ E,fV _ _ E,fV _ _ A,fV _ _ A];exact Z d q T hq an ab O
structure Ke where
 p:υ->Nat->Nat->ω->Prop
 st:∀v l h w w',p v l h w->δ w.heap.size w w'->p v l h w'
def Ke.is(c:υ):Ke:=⟨λv _ _ _=>v=c,λ_ _ _ _ _ h _=>h⟩
def Ke.box(cs:Array υ)(t:TypeId):Ke:=⟨λv l h w=>h=l+1/\v=π (σ ⟨l,0,ν⟩)/\w.heap[l]?=σ (ξ cs t (0,0)),λ_ l _ _ _ h hb=>⟨h.1,h.2.1,(hb.block l (aA h.2.2)).trans h.2.2⟩⟩
def BP(L:Δ Ke)(i:Nat):Ke:=(L[i]?).getD (.is undef)
def aa8(ops:Array Oper)(a:Act)(L:Δ Ke)(n:Nat)(ρ:Operand->υ)(lo hi:Nat->Nat)(w:ω)(x:Operand):Prop:=match x with
 |.tmp t=>match(List.range n).find? (λj=>jw ops j==σ t)with
   |some j=>(BP L j).p (ρ x) (lo j) (hi j) w
   |none=>ρ x=a.tmps.getD t undef
 |x=>ρ x=a.eval x
def M3(p:Operand->Prop):Δ Operand->Prop
 |[]=>True
 |x::l=>p x/\M3 p l
theorem FO{d:Operand->Prop}:∀{c:Δ Operand},(∀b∈c,d b)->M3 d c
 |[],_=>trivial
 |b::_,h=>⟨h b (ot ..),FO λf e=>h f (eT _ e)⟩
def Dy(P:Program)(ops:Array Oper)(a:Act)(W0:ω)(L:Δ Ke)(n i:Nat):Prop:=match ops[i]? with
 |some o=>∀(ρ:Operand->υ) (lo hi:Nat->Nat) (w:ω),δ W0.heap.size W0 w->M3 (aa8 ops a L n ρ lo hi w) o.op.operands.toList->me P o ρ w λv w'=>(BP L i).p v w.heap.size w'.heap.size w'/\δ w.heap.size w w'
 |none=>True
theorem Dy.run{d:Δ Ke}(e:Dy P ops a v d p r)(n:ops[r]?=σ o)(val:Nat->υ)(lo i:Nat->Nat)(k:δ v.heap.size v w)(l:ahy ops p o (λb=>(BP d b).p (val b) (lo b) (i b) w)):me P o (Td ops a val p) w λj f=>(BP d r).p j w.heap.size f.heap.size f/\δ w.heap.size w f:=by
 unfold Dy at e;rw[n]at e;refine e (Td ops a val p) lo i w k (FO λu t=>?_);cases u with
 |tmp c=>
  unfold aa8;simp only;have g:Td ops a val p (.tmp c)=match(List.range p).find? (λb=>jw ops b==σ c)with
   |some b=>val b
   |none=>a.eval (.tmp c):=rfl
  cases hf:(List.range p).find? (λb=>jw ops b==σ c)with|none=>rw[g,hf];rfl|some b=>rw[g,hf];have m:=mD.mp (kq hf);have s:jw ops b=σ c:=(by have:=zw hf;simpa using this);refine l b m ?_;rw[s];simp only[List.contains_iff_mem];exact iD _ (List.mem_filterMap.2 ⟨.tmp c,t,rfl⟩)
 |const j=>rfl
 |global y=>rfl
 |func x=>rfl
theorem afd{W0:ω}(f:Δ Ke)(z:a.tmps.size=u)(i:O9 md ops p r u=true)(y:aa4 (Dy P ops a W0 f p) p)
 (C:∀(val:Nat->υ) (lo d:Nat->Nat) (w:ω),δ W0.heap.size W0 w->(∀b,b<p->(BP f b).p (val b) (lo b) (d b) w/\W0.heap.size<=lo b/\lo b<=d b/\d b<=w.heap.size)->(∀b e,b<p->e<p->b≠e->d b<=lo e\/d e<=lo b)->wpAny P md ops Q r (Ht p r λ_=>true) (qg ops a val (λ_=>true) p) w) :
 wpAny P md ops Q ops.size (Array.replicate ops.size false) a W0:=by
 subst z;have D:ops.size=p+r:=(by have c:=i;unfold O9 at c;simp only[Bool.and_eq_true,decide_eq_true_eq]at c;exact c.1.1.1);have c:=ai6 (λb=>(BP f b).p) i (λb E B c w F n s=>(BP f b).st E B c w F n s) (λb d o x val lo k w t v=>(y.get b d).run x val lo k t v) C p (λ_=>undef) (λ_=>0) (λ_=>0) (λ_=>false) W0 (Pb p) (λ_ _ _ c=>by cases c) (aj _ _) (λ_ _ c=>by cases c) (λ_ _ _ _ _ c=>by cases c);have l:Ht p r (λ_=>false)=Array.replicate ops.size false:=(by rw[D];apply vu;intro e;by_cases j:e<p+r;{rw[um j];simp[j]};rw[gE (by simp[Ht];omega),gE (by simp;omega)]);have m:∀g,qg ops a (λ_=>undef) (λ_=>false) g=a:=λg=>by
  induction g with
  |zero=>rfl
  |succ g A=>unfold qg;rw[aH (by simp)];exact A
 rw[l,m]at c;rw[show ops.size=r+p from by omega]at c ⊢;exact c
theorem qC{id n m z:Nat}(f:Δ Ke)(j:P.follows .mixedOrders=true)(l:a.tmps.size=z)(i:O9 .any ops n m z=true)(k:aa4 (Dy P ops a w.drew f n) n)
 (p:∀(val:Nat->υ) (lo c:Nat->Nat) (d:ω),δ w.heap.size w d->(∀b,b<n->(BP f b).p (val b) (lo b) (c b) d/\w.heap.size<=lo b/\lo b<=c b/\c b<=d.heap.size)->(∀b e,b<n->e<n->b≠e->c b<=lo e\/c e<=lo b)->wpAny P .any ops Q m (Ht n m λ_=>true) (qg ops a val (λ_=>true) n) d) :
 (Code.region id ops true).wp P Q a w:=
 wp_region_any j (afd (W0:=w.drew) f l i k λval lo c d g=>p val lo c d ((aP (aj w.heap.size w)).trans g))
theorem oy{i:Nat}{o:Oper}(c:Region.ready md ops x=[i])(k:ops[i]?=σ o)(j:o.guard=ν)(b:me P o a.eval w λe f=>wpAny P md ops Q p (x.setIfInBounds i true) (a.put o.dst e) f):wpAny P md ops Q (p+1) x a w:=by refine⟨λg=>(by rw[g]at c;cases c),λl d=>?_⟩;rw[c]at d;obtain rfl:=bj.mp d;unfold wpOp;simp only[k];rw[aN (by simp[Region.wanted,j])];exact .inl (b.wp λe f b=>b)
theorem uQ(c:Region.ready md ops x=[])(b:Q .normal a w):∀d,wpAny P md ops Q d x a w
 |0=>⟨c,b⟩
 |_+1=>⟨λ_=>b,by rw[c];simp⟩
theorem nQ{id:Nat}{S:ω->Prop}(c:P.follows .mixedOrders=true)(b:wpAnyH P .any ops Q S ops.size (Array.replicate ops.size false) a w.drew):(Code.region id ops true).wp P Q a w:=wp_region_any c (wpAny_of_held _ _ _ _ b)
end
theorem df{P:Program}{ops:Array Oper}{Q:Exit->Act->ω->Prop}{md:Region.Mode}{S:ω->Prop}{o:Oper}{a:Act}{w:ω}(d:Nat)(i:ops[d]?=σ o)(g:S w)(b:wpAnyH P md ops Q S p (x.setIfInBounds d true) (a.put o.dst m) w)(j:∀w,S w->(execOp a.eval o).run P w=.ok (.value m) w:=by rintro k -;go_simp;with_reducible rfl)(c:(Region.noSelect ops&&Region.free md ops x d&&(Region.ready md ops x).contains d&&o.guard.isNone)=true:=by kernel_rfl)(f:∀e a w,¬Q (.panic e) a w:=by exactλ_ _ _ b=>b):wpAnyH P md ops Q S (p+1) x a w:=by simp only[Bool.and_eq_true,Option.isNone_iff_eq_none]at c;exact wpAnyH_take i c.1.1.1 c.1.1.2 c.1.2 (λe a w b=>absurd b (f e _ w)) (.inl ⟨by simp[Region.wanted,c.2],j⟩) g b
theorem vI{P:Program}{ops:Array Oper}{Q:Exit->Act->ω->Prop}{md:Region.Mode}{S:ω->Prop}{o:Oper}{a:Act}{w:ω}(d:Nat)(k:ops[d]?=σ o)(b:me P o a.eval w λg e=>S e/\wpAnyH P md ops Q S p (x.setIfInBounds d true) (a.put o.dst g) e)(c:Region.ready md ops x=[d]:=by kernel_rfl)(j:o.guard=ν:=by rfl):wpAnyH P md ops Q S (p+1) x a w:=by refine⟨λi=>(by rw[i]at c;cases c),λl f=>?_⟩;rw[c]at f;obtain rfl:=bj.mp f;unfold wpOp;simp only[k];rw[aN (by simp[Region.wanted,j])];exact .inl (b.wp λg e b=>b)
theorem Zw(b c:aF)(w:ω):Calls prog 315 #[eB b,eB c] w λf i=>f=τ (ι κ (Q5 b c))/\δ w.heap.size w i:=by
 obtain⟨W,j⟩:=nm ((w.alloc (zc b.bH b.n b.s)).alloc (zc c.bH c.n c.s));have e:=zS j;have n:W.heap[w.heap.size]?=σ (zc b.bH b.n b.s):=by rw[j];exact(dA _ _ _ (by simp)).trans (az w _)
 have p:W.heap[w.heap.size+1]?=σ (zc c.bH c.n c.s):=by rw[j];have:=az (w.alloc (zc b.bH b.n b.s)) (zc c.bH c.n c.s);simpa using this
 obtain⟨D,t,u⟩:=oh n;obtain⟨E,v,x⟩:=oh p;have r:=e;have z:=ak j;unfold eB;have l:Hid (w.heap.size<W.heap.size/\w.heap.size+1<W.heap.size):=ak ⟨aA n,aA p⟩;clear e j n p;go_in;go_wp2;rw[<- z.J];have y:prog.follows .mixedOrders=true:=by kernel_rfl
 have A:∀d,δ W.drew.heap.size W.drew d->(d.cell? (Ad w.heap.size 1)=σ (ι κ b.n)/\d.cell? (Ad w.heap.size 2)=σ (θ b.s))/\d.cell? (Ad (w.heap.size+1) 1)=σ (ι κ c.n)/\d.cell? (Ad (w.heap.size+1) 2)=σ (θ c.s):=λd e=>⟨⟨(e.cell (p:=(Ad _ 1)) l.J.1).trans t,(e.cell (p:=(Ad _ 2)) l.J.1).trans u⟩,(e.cell (p:=(Ad _ 1)) l.J.2).trans v,(e.cell (p:=(Ad _ 2)) l.J.2).trans x⟩;clear D t u E v x;refine qC (n:=12) (m:=1) (z:=17) [.is (π (σ (Ad w.heap.size 1))),.is (ι κ b.n),.is (π (σ (Ad (w.heap.size+1) 1))),.is (ι κ c.n),.is (ι κ (Q0 b.n c.n)),.is (π (σ (Ad w.heap.size 2))),.is (θ b.s),.is (π (σ (Ad (w.heap.size+1) 2))),.is (θ c.s),.is (ι κ (qb b.s.toList c.s.toList)),⟨λF s _ d=>F=.slice (σ (Ad s 0)) 2 2/\d.heap[s]?=σ (ξ #[ι κ (Q0 b.n c.n),ι κ (qb b.s.toList c.s.toList)] 3 (0,0)),λ_ _ _ _ _ g e=>⟨g.1,(e.block _ (aA g.2)).trans g.2⟩⟩,.is (ι κ (Q5 b c))] y rfl (by kernel_rfl) ⟨⟨⟨⟨⟨⟨⟨⟨⟨⟨⟨⟨trivial,?_⟩,?_⟩,?_⟩,?_⟩,?s4⟩,?_⟩,?_⟩,?_⟩,?_⟩,?s9⟩,?XJ⟩,?XK⟩ ?fin;(case s4=>refineλρ lo k d e ⟨hf,(f:ρ (.tmp 6)=_),(m:ρ (.tmp 8)=_),_⟩=>jS rfl hf call325 (by simp[f,m]) (acQ b.n c.n d) ?_;rintro f i ⟨rfl,rfl⟩;exact⟨_,rfl,rfl,aj _ _⟩);(case s9=>refineλρ lo k d e ⟨hf,(f:ρ (.tmp 11)=_),(m:ρ (.tmp 13)=_),_⟩=>jS rfl hf call326 (by simp[f,m]) (acR b.s c.s d) ?_;rintro f i ⟨rfl,rfl⟩;exact⟨_,rfl,rfl,aj _ _⟩);(case XJ=>refineλρ lo k d e ⟨(f:ρ _=_),(m:ρ _=_),_⟩=>dU (v:=.slice (σ (Ad d.heap.size 0)) 2 2) (w':=d.alloc (ξ #[ι κ (Q0 b.n c.n),ι κ (qb b.s.toList c.s.toList)] 3)) ?_ ⟨⟨rfl,az d _⟩,(aj _ _).alloc (ae _) _⟩;go_simp);(case XK=>refineλρ lo k d e ⟨hf,⟨(f:ρ (.tmp 15)=_),g⟩,_⟩=>jS rfl hf call324 (by simp[f]) (akV _ _ _ 2 d (fW g).1 (fW g).2) ?_;rintro f i ⟨rfl,B⟩;exact⟨_,rfl,rfl,B⟩);(case fin=>intro val lo k i e C _;have G:val 11=_:=(C 11 (by decide)).1;simp[qg,jw,Act.put];refine oy (i:=12) (by kernel_rfl) rfl rfl (dU (w':=i) (v:=ι κ (Q5 b c)) (by go_simp) (uQ (by kernel_rfl) ?_ _));simp[Act.put];go_wp2;go_ret;exact⟨rfl,r.trans (e.mono r.size)⟩);all_goals refineλρ lo k d e ⟨(f:ρ _=_),_⟩=>dU (w':=d) ?_ ⟨rfl,aj _ _⟩;obtain⟨⟨H,I⟩,L,M⟩:=A d e;go_simp
theorem alD(w:ω)(b c:aF){q:Nat}(e:w.heap[q]?=σ (ξ #[m] i (0,0))):∃W,W=((w.alloc (nJ b)).alloc (nJ c)).alloc sP/\δ w.heap.size w W/\W.heap[w.heap.size+2]?=σ (ξ #[.bool false,ι κ 0,θ ⟨#[]⟩,.bool false] 305 (0,0))/\
 (W.cell? ⟨w.heap.size,0,ν⟩=σ (.bool b.bH)/\W.cell? ⟨w.heap.size,1,ν⟩=σ (ι κ b.n)/\W.cell? ⟨w.heap.size,2,ν⟩=σ (θ b.s))/\(W.cell? ⟨w.heap.size+1,0,ν⟩=σ (.bool c.bH)/\W.cell? ⟨w.heap.size+1,1,ν⟩=σ (ι κ c.n)/\W.cell? ⟨w.heap.size+1,2,ν⟩=σ (θ c.s))/\(W.cell? ⟨q,0,ν⟩=σ m/\q<W.heap.size)/\(w.heap.size<W.heap.size/\w.heap.size+1<W.heap.size):=by have d:=Ek w (nJ b) (nJ c) sP;have f:=wJ w (nJ b) (nJ c);have g:=(dA ((w.alloc (nJ b)).alloc (nJ c)) sP w.heap.size (by simp;omega)).trans f.2.2;have j:=(dA ((w.alloc (nJ b)).alloc (nJ c)) sP (w.heap.size+1) (by simp)).trans f.2.1;exact⟨_,rfl,d.1,d.2,oh g,oh j,⟨bB ((d.1.block q (aA e)).trans e) 0,aw (aA e) d.1.size⟩,aA g,aA j⟩
theorem alE(o:Nat)(u:5<=o)(t:o<=10)(c d:aF){q:Nat}{w:ω}(k:w.heap[q]?=σ (ξ #[ι κ o] i (0,0))):Calls prog 313 #[eB c,eB d,π (σ ⟨q,0,ν⟩)] w λf C=>f=τ (CU (.inl (iy (CY o (Q5 c d)))))/\δ w.heap.size w C:=by
 obtain⟨W,y,z,A,⟨l0,l1,l2⟩,⟨r0,r1,r2⟩,⟨L,O⟩,hs⟩:=alD w c d k;have r:=ak (λb=>Zw c d b);have E:=ak (λb=>Y8 o u t (Q5 c d) b);have s:=ak (λb=>xF (CY o (Q5 c d)) b);have G:=ak (λb (j:δ _ _ b)=>Y9 A z j (by omega));have H:=ak y;have I:=ak (λb (j:δ W.heap.size W b)=>(j.cell (p:=⟨q,0,ν⟩) O).trans L);obtain⟨U,V,X,M,N,x⟩:=jD (.inl (iy (CY o (Q5 c d))));rw[x]at s ⊢;have Y:=aA k;clear k u t y z A N x;unfold eB at r ⊢;go_in;go_wp2_with fail;rw[<- H.J];go_region_with(first
  | (go_at_call 315;refine(r.J _).mono ?_;rintro f b ⟨rfl,e⟩;have g:=(aP (aj W.heap.size W)).trans e;have Z:=I.J b g;have B:=ak g;clear e g)
  | (go_at_call 314;refine(E.J _).mono ?_;rintro f C ⟨rfl,rfl⟩)
  | (go_at_call 161;refine(s.J _).mono ?_;rintro f T ⟨rfl,e⟩;obtain⟨⟨l,m,n,p⟩,⟨z0,z1,z2,z3⟩,v⟩:=G.J T (B.J.trans (e.mono B.J.size));have D:=ak v;have F:=ak (And.intro l (And.intro m (And.intro n p)));clear e v))
 all_goals (try go_wp2_with fail);(try simp only[Exit.inBlock,Exit.then]);obtain⟨l,m,n,p⟩:=F.J;refine aE (v:=.agg #[.bool U,ι κ V,θ X,.bool M]) (by simp[results,results313,go_sem,l,m,n,p];try rfl) rfl ?_;exact⟨rfl,D.J _ _ _ _⟩
theorem agY(o:Nat)(n:o<=4)(b c:aF){q:Nat}{w:ω}(e:w.heap[q]?=σ (ξ #[ι κ o] i (0,0))):Calls prog 316 #[eB b,eB c,π (σ ⟨q,0,ν⟩)] w λl E=>l=τ (CU (Q9 (xE o b.n c.n)))/\δ w.heap.size w E:=by have d:=Ek w (nJ b) (nJ c) sP;have u:=bB ((d.1.block q (aA e)).trans e) 0;simp only[List.getElem?_toArray,List.getElem?_cons_zero]at u;have j:=ak (ak6 o n b.n c.n);obtain⟨f,r⟩:∃f,f=xE o b.n c.n:=⟨_,rfl⟩;rw[<- r]at j ⊢;have m:=ak (λg=>Ra f g);have t:=ak (λg (x:δ _ _ g)=>Y9 d.2 d.1 x (by omega));have⟨G,H,I,v,z,p⟩:=jD (Q9 f);rw[p]at m ⊢;have L:=aA e;unfold CX at j;clear e n d z p r;unfold eB;go_in;go_wp21;refine(j.J _).mono ?_;rintro l g ⟨rfl,k⟩;have s:=ak k;go_wp21;refine(m.J _).mono ?_;rintro l F ⟨rfl,k⟩;have⟨⟨A,B,C,D⟩,⟨M,N,O,T⟩,y⟩:=t.J F (s.J.trans (k.mono s.J.size));go_wp2;(try simp only[Exit.inBlock,Exit.then]);refine aE (v:=.agg #[.bool G,ι κ H,θ I,.bool v]) (by simp[results,results316,go_sem,A,B,C,D];try rfl) rfl ?_;exact⟨rfl,y _ _ _ _⟩
theorem fN.keep{a:ω}{lo:Nat}{c:Δ aF->Prop}{b:Δ aF->fE}(e:fN a lo m c b)(j:δ a.heap.size a v):fN v lo m c b:=by have⟨n,l,k,g,f⟩:=e;exact⟨n,l,k,g,λd i=>f d (lH.back j i)⟩
theorem xw.keep{a:ω}{lo:Nat}{c:aF->Prop}{b:aF->fE}(e:xw a lo m c b)(j:δ a.heap.size a v):xw v lo m c b:=by have⟨n,l,k,g,f⟩:=e;exact⟨n,l,k,g,λd i=>f d (lH.back j i)⟩
theorem yK.keep{a:ω}{lo:Nat}{c:aF->aF->Prop}{b:aF->aF->fE}(e:yK a lo m c b)(j:δ a.heap.size a v):yK v lo m c b:=by have⟨n,l,k,g,f⟩:=e;exact⟨n,l,k,g,λd i=>f d (lH.back j i)⟩
abbrev Ru:aF->Prop:=λ_=>True
abbrev Rv:aF->aF->Prop:=λ_ _=>True
theorem JH{w:ω}{lo:Nat}{W:aF->fE}(d:xw w lo m Ru W)(r:lo<=w.heap.size) :
 Calls prog 285 #[m] w λs g=>∃i,s=τ i/\xw g lo i Ru (unO W)/\δ w.heap.size w g:=by have k:=ak d;obtain⟨f,e,rfl,-⟩:=d;have b:δ w.heap.size w (w.alloc (ξ #[.func (.func f) #[] e] 431)):=(aj _ _).alloc (ae _) _;have l:Hid (xw (w.alloc (ξ #[.func (.func f) #[] e] 431)) lo (.func (.func 293) #[] #[π (σ ⟨w.heap.size,0,ν⟩)]) Ru (unO W)):=ak ⟨_,_,rfl,call293,λt c n p=>apr k.J (lH.back b c) (c.block r (az w _)) n p⟩;have j:=ak b;go_in;go_wp2;go_ret;exact⟨_,rfl,l.J,j.J⟩
theorem Ew{w:ω}{lo:Nat}{e:Δ aF->Prop}{c:Δ aF->fE}{W:aF->fE}(f:fN w lo m e c)(g:xw w lo k Ru W)(C:lo<=w.heap.size) :
 Calls prog 283 #[m,k] w λD r=>∃p,D=τ p/\fN r lo p e (λrow=>zq W (c row))/\δ w.heap.size w r:=by have u:=ak f;have v:=ak g;obtain⟨l,i,rfl,-⟩:=f;obtain⟨n,j,rfl,-⟩:=g;have b:=wJ w (ξ #[.func (.func l) #[] i] 172) (ξ #[.func (.func n) #[] j] 431);have x:Hid (fN ((w.alloc (ξ #[.func (.func l) #[] i] 172)).alloc (ξ #[.func (.func n) #[] j] 431)) lo (.func (.func 292) #[] #[π (σ ⟨w.heap.size,0,ν⟩),π (σ ⟨w.heap.size+1,0,ν⟩)]) e (λrow=>zq W (c row))):=ak ⟨_,_,rfl,call292,λE d F G H ry y s z A B=>akS u.J v.J (λ_ _ _ _=>trivial) (lH.back b.1 d) (d.block C b.2.2) (d.block (by omega) b.2.1) y s z A B⟩;have t:=ak b.1;go_in;go_wp2;go_ret;exact⟨_,rfl,x.J,t.J⟩
theorem Zx(w:ω)(o b c:Obj):δ w.heap.size w (((w.alloc o).alloc b).alloc c)/\(((w.alloc o).alloc b).alloc c).heap[w.heap.size]?=σ o/\(((w.alloc o).alloc b).alloc c).heap[w.heap.size+1]?=σ b/\(((w.alloc o).alloc b).alloc c).heap[w.heap.size+2]?=σ c:=
 ⟨(Ek w o b c).1,(dA _ _ _ (by simp;omega)).trans (wJ w o b).2.2,(dA _ _ _ (by simp)).trans (wJ w o b).2.1,(Ek w o b c).2⟩
theorem Oi{w:ω}{lo:Nat}{x:υ}{d:Δ aF->Prop}{e f:Δ aF->fE}{W:aF->aF->fE}(i:fN w lo m d e)(j:fN w lo k d f)(l:yK w lo x Rv W)(H:lo<=w.heap.size) :
 Calls prog 299 #[m,k,x] w λI v=>∃u,I=τ u/\fN v lo u d (λrow=>xD W (e row) (f row))/\δ w.heap.size w v:=by have A:=ak i;have L:=ak j;have B:=ak l;obtain⟨r,n,rfl,-⟩:=i;obtain⟨s,g,rfl,-⟩:=j;obtain⟨t,p,rfl,-⟩:=l;have b:=Zx w (ξ #[.func (.func r) #[] n] 172) (ξ #[.func (.func s) #[] g] 172) (ξ #[.func (.func t) #[] p] 441);have C:Hid (fN (((w.alloc (ξ #[.func (.func r) #[] n] 172)).alloc (ξ #[.func (.func s) #[] g] 172)).alloc (ξ #[.func (.func t) #[] p] 441)) lo (.func (.func 312) #[] #[π (σ ⟨w.heap.size,0,ν⟩),π (σ ⟨w.heap.size+1,0,ν⟩),π (σ ⟨w.heap.size+2,0,ν⟩)]) d (λrow=>xD W (e row) (f row))):=ak ⟨_,_,rfl,call312,λM c N O T ry D y E F G=>ak5 A.J L.J B.J (λ_ _ _ _ _ _ _ _=>trivial) (lH.back b.1 c) (c.block H b.2.1) (c.block (by omega) b.2.2.1) (c.block (by omega) b.2.2.2) D y E F G⟩;have z:=ak b.1;go_in;go_wp2;go_ret;exact⟨_,rfl,C.J,z.J⟩
theorem tB{val:Nat->υ}{lo c:Nat->Nat}{w:ω}{d:Δ Ke}{S:Nat->Prop}(f:∀b,b<p->(BP d b).p (val b) (lo b) (c b) w/\S b)(b:Nat)(e:d[b]?=σ (.is m))(c:b<p:=by decide):val b=m:=by have:=(f b c).1;unfold BP at this;rw[e]at this;exact this
