import Derived.Test.YtcoaphfimellcaaGreatDoorQAE
import Derived.OrdersHeld
set_option maxHeartbeats 0
set_option maxRecDepth 100000
namespace Go.Proofs.YtcoaphfimellcaaGreatDoor
open Go.RowKit
open _root_.Go.Proofs.Tryz
open Option renaming some→σ,none→ν
open Go.IntKind renaming i64→κ
open Go.Ending renaming returned→τ
open Go.Obj renaming cells→ξ
open Go renaming World→ω,Value→υ
open Go.RowKit renaming Below→δ
open Go.Value renaming int→ι,string→θ,slice→ψ,pointer→π,agg→χ
variable{p l u b:Nat}{m k:υ}{x:Array Bool}{v:ω}{n:Nat->Bool}{i:ω->Prop}{t:TypeId}{r:Nat->Prop}{s:Nat->Nat}
def iR(P:Program)(o:Oper)(ρ:Operand->υ)(w:ω)(R:υ->ω->Prop):Prop:=
 match(execOp ρ o).run P w with
 |.ok (.value v) w'=>R v w'
 |.ok .skip w'=>R undef w'
 |.ok (.enter f args) w'=>Calls P f args w' λe w''=>∃v,e=τ v/\R v w''
 |.ok (.row r args) w'=>Rows P r args w' R
 |_=>False
section
variable {P:Program} {o:Oper} {ρ:Operand->υ} {ops:Array Oper} {a:Act} {w:ω} {K:Act->ω->Prop} {Q:Exit->Act->ω->Prop} {R:υ->ω->Prop} {md:Region.Mode}
theorem iR.wp(b:iR P o a.eval w R)(e:∀c d,R c d->K (a.put o.dst c) d):o.wp P a w K Q:=by
 unfold Oper.wp;unfold iR at b;generalize (execOp a.eval o).run P w=r at *
 cases r with
 |ok i d=>
   cases i<;>simp only[Oper.upon]at b ⊢<;>first
    |exact e _ _ b
    |exact b.mono (λk j g=>by obtain⟨c,rfl,f⟩:=g;exact e _ _ f)
    |exact Rows.mono b (λc j f=>e _ _ f)
    |exact b.elim
 |halt l d=>exact b.elim
theorem fj{v:υ}{w':ω}(b:(execOp ρ o).run P w=.ok (.value v) w')(c:R v w'):iR P o ρ w R:=by unfold iR;rw[b];exact c
theorem eT{b:FuncId}{i:Operand}{j:Array Operand}{k:Array TypeId}{args e:Array υ}{S:Ending->ω->Prop}(d:o.op=.call { callee:=.value i,args:=j,argTypes:=k })(r:ρ i=.func (.func b) #[] e)(p:∀(args:Array υ) (w:ω),Sem.run P (callFunc b args) w=.ok (.enter b args) w)(n:#[]++j.map ρ++e=args)
 (m:Calls P b args w S) (l:∀c g,S c g->∃f,c=τ f/\R f g):iR P o ρ w R:=by have c:execOp ρ o=callFunc b args:=(by cases o;simp only at d;subst d;rw[<- n];simp only[execOp,resolve,r];rfl);unfold iR;rw[c,p];exact m.mono l
def gO(ops:Array Oper)(i:Nat):Option Tmp:=(ops[i]?).bind (·.dst)
def mY(ops:Array Oper)(a:Act)(val:Nat->υ)(d:Nat->Bool):Nat->Act
 |0=>a
 |n+1=>if d n then(mY ops a val d n).put (gO ops n) (val n)else mY ops a val d n
def SE(ops:Array Oper)(a:Act)(val:Nat->υ)(n:Nat)(x:Operand):υ:=match x with
 |.tmp t=>match(List.range n).find? (λj=>gO ops j==σ t)with
   |some j=>val j
   |none=>a.eval (.tmp t)
 |x=>a.eval x
def Nx{α:Type}(f:Nat->α)(i:Nat)(v:α):Nat->α:=λj=>if j=i then v else f j
theorem lN{d:Type}(e:Nat->d)(b:Nat)(c:d):Nx e b c b=c:=aF rfl
theorem dw{c:Type}(b:Nat->c)(e:c)(d:l≠p):Nx b p e l=b l:=aE d
theorem xq{val val':Nat->υ}{c d':Nat->Bool}:∀{n:Nat},(∀b,b<n->val b=val' b/\c b=d' b)->mY ops a val c n=mY ops a val' d' n
 |0,_=>rfl
 |n+1,h=>by
   unfold mY;rw[xq (n:=n) (λb d=>h b (by omega)),(h n (by omega)).1,(h n (by omega)).2]
theorem Ed(val:Nat->υ)(c:Nat->Bool):∀b,(mY ops a val c b).tmps.size=a.tmps.size
 |0=>rfl
 |b+1=>by
   unfold mY;split
   . have:=Ed val c b
     cases gO ops b<;>simpa[Act.put]using this
   . exact Ed val c b
theorem OL{val:Nat->υ}{e:Nat->Bool}{b:Nat}(i:υ)(k:e b=false):∀{n:Nat},b<n->(∀c,c<n->c≠b->∀g,gO ops c=σ g->gO ops b≠σ g)->(mY ops a val e n).put (gO ops b) i=mY ops a (Nx val b i) (Nx e b true) n
 |0,h,_=>absurd h (by omega)
 |n+1,h,fE=>by
   by_cases f:b=n
   . subst f
     unfold mY;rw[k,lN,lN,aE (by simp),aF rfl,xq (val':=Nx val b i) (d':=Nx e b true) (λc j=>⟨(dw _ _ (Nat.ne_of_lt j)).symm,(dw _ _ (Nat.ne_of_lt j)).symm⟩)]
   . have m:=OL (val:=val) (n:=n) i k (by omega) (λc j=>fE c (by omega))
     unfold mY;rw[dw _ _ (λd=>f d.symm),dw _ _ (λd=>f d.symm),<- m];split
     . exact Act.put_comm _ _ _ (λg l=>fE n (by omega) (λd=>f d.symm) g l)
     . rfl
theorem Xb{val:Nat->υ}{m:Operand}(l:∀b,b<p->∀c,gO ops b=σ c->c<a.tmps.size)(k:∀e b,e<p->b<p->e≠b->∀c,gO ops b=σ c->gO ops e≠σ c)(g:∀b,b<p->∀c,m=.tmp c->gO ops b=σ c->n b=true):(mY ops a val n p).eval m=SE ops a val p m:=by
 cases m with
 |tmp c=>
   unfold SE;simp only;have y:∀p,(∀b,b<p->∀c,gO ops b=σ c->c<a.tmps.size)->(∀b,b<p->gO ops b=σ c->n b=true)->(∀e b,e<p->b<p->e≠b->∀c,gO ops b=σ c->gO ops e≠σ c)->(mY ops a val n p).eval (.tmp c)=match(List.range p).find? (λb=>gO ops b==σ c)with
    |some b=>val b
    |none=>a.eval (.tmp c):=by
    intro p
    induction p with
    |zero=>intro _ _ _;rfl
    |succ p j=>
      intro l g k;have j:=j (λb i=>l b (by omega)) (λb i=>g b (by omega)) (λe b B i=>k e b (by omega) (by omega));rw[sy,List.find?_append];unfold mY;by_cases f:gO ops p=σ c
      . have r:(List.range p).find? (λb=>gO ops b==σ c)=ν:=by
         rw[ud];intro b i;have:=dB.mp i;intro d;exact k p b (by omega) (by omega) (by omega) c (by simpa using d) f
        rw[g p (by omega) f,aF rfl,r,f];have x:=Ed (ops:=ops) (a:=a) val n p;have v:=l p (by omega) c f;simp[Act.put,Act.eval,f,x,v]
      . have s:(List.find? (λb=>gO ops b==σ c) [p])=ν:=by simp[f]
        rw[s,Option.or_none,<- j];split
        . exact xN (λC u d=>f (by cases d;exact u))
        . rfl
   exact y p l (λb i t=>g b i c rfl t) k
 |const D=>clear g;induction p with
   |zero=>rfl
   |succ p j=>unfold mY;split<;>first|(rw[xN (λ_ _ d=>by cases d)];rfl)|rfl
 |global A=>clear g;induction p with
   |zero=>rfl
   |succ p j=>unfold mY;split<;>first|(rw[xN (λ_ _ d=>by cases d)];rfl)|rfl
 |func z=>clear g;induction p with
   |zero=>rfl
   |succ p j=>unfold mY;split<;>first|(rw[xN (λ_ _ d=>by cases d)];rfl)|rfl
def y9(n m:Nat)(d:Nat->Bool):Array Bool:=Array.ofFn (n:=n+m) λi=>decide (i.val<n)&&d i.val
theorem qn{d:Nat->Bool}(b:u<p+l):(y9 p l d)[u]?=σ (decide (u<p)&&d u):=by simp[y9,b]
theorem UX(f:u<p):(y9 p l n).setIfInBounds u true=y9 p l (Nx n u true):=by apply ni;intro d;by_cases c:d<p+l;{rw[sB,qn c,qn c];by_cases b:u=d;{subst b;simp[y9,lN,f];omega};rw[aE b,dw _ _ (λe=>b e.symm)]};rw[dR (by simp[y9];omega),dR (by simp[y9];omega)]
def hangs(md:Region.Mode)(ops:Array Oper):Nat->Nat->Nat->Bool
 |0,_,_=>false
 |k+1,i,j=>match ops[i]? with
   |some o=>o.after.any λe=>Region.binds md e&&(e.on==j||hangs md ops k e.on j)
   |none=>false
def ahh(ops:Array Oper)(n:Nat)(o:Oper)(p:Nat->Prop):Prop:=∀j,j<n->(match gO ops j with|some t=>(o.looksAt ops).contains t|none=>false)=true->p j
def H6(p:Nat->Prop):Nat->Prop
 |0=>True
 |n+1=>H6 p n/\p n
theorem H6.get:∀{c:Nat},H6 r c->∀b,b<c->r b
 |0,_,_,h=>absurd h (by omega)
 |c+1,h,b,hi=>by
   rcases lR b c with d|d
   . exact h.1.get b d
   . obtain rfl:b=c:=by omega
     exact h.2
def ahi(md:Region.Mode)(ops:Array Oper)(n m:Nat)(d:Nat->Bool):Prop:=∀i o,i<n->d i=true->ops[i]?=σ o->∀e∈o.after,Region.binds md e=true->(y9 n m d).getD e.on false=true
theorem aaU(b:(y9 p l n).getD u false=true):u<p/\n u=true:=by rcases lR u (p+l)with c|c;{have:=qn (d:=n) c;simp only[Array.getD_eq_getD_getElem?,this,Option.getD_some,Bool.and_eq_true,decide_eq_true_eq]at b;exact b};rw[iA,dR (by simp[y9];omega)]at b;cases b
theorem xr{i n:Nat}{f:Nat->Bool}(l:ahi md ops i n f):∀(e g d:Nat) (o:Oper),ops[g]?=σ o->(∀c∈o.after,Region.binds md c=true->(y9 i n f).getD c.on false=true)->hangs md ops e g d=true->d<i/\f d=true
 |0,_,_,_,_,_,b=>by simp[hangs]at b
 |e+1,g,d,o,ho,ml,b=>by
   unfold hangs at b;rw[ho]at b;obtain⟨v,r,b⟩:=Array.any_eq_true.mp b;have m:=Array.getElem_mem r;generalize o.after[v]=c at b m;simp only[Bool.and_eq_true,Bool.or_eq_true,beq_iff_eq]at b;obtain⟨t,b⟩:=b;have u:=ml c m t;obtain⟨j,k⟩:=aaU u;rcases b with b|b
   . rw[<- b];exact⟨j,k⟩
   . cases ho':ops[c.on]? with
     |none=>unfold hangs at b;cases e<;>simp[ho']at b
     |some x=>exact xr l e c.on d x ho' (λs p y=>l _ _ j k ho' s p y) b
def yb(d:Nat->Bool):Nat->Nat
 |0=>0
 |n+1=>yb d n+if d n then 0 else 1
theorem H7{c:Nat->Bool}{b:Nat}(e:c b=false):∀{n:Nat},b<n->yb c n=yb (Nx c b true) n+1
 |0,h=>absurd h (by omega)
 |n+1,h=>by
   by_cases d:b=n
   . subst d
     have:∀n,n<=b->yb (Nx c b true) n=yb c n:=λn=>by
      induction n with
      |zero=>intro _;rfl
      |succ n g=>intro i;unfold yb;rw[g (by omega),dw _ _ (by omega)]
     unfold yb;rw[this b (ae _),lN,e];rfl
   . unfold yb
     rw[H7 e (n:=n) (by omega),dw _ _ (λf=>d f.symm)];omega
theorem KS{c:Nat->Bool}:∀{n:Nat},yb c n=0->∀b,b<n->c b=true
 |0,_,_,h=>absurd h (by omega)
 |n+1,h,b,hi=>by
   unfold yb at h;rcases lR b n with d|d
   . exact KS (n:=n) (by omega) b d
   . obtain rfl:b=n:=by omega
     cases hd:c b with
     |true=>rfl
     |false=>rw[hd]at h;simp at h
theorem OM:∀b,yb (λ_=>false) b=b
 |0=>rfl
 |b+1=>by unfold yb;rw[OM b];rfl
def vU(s:Nat->Nat)(i:Nat)(f:Nat->Nat)(z:Nat):Nat:=if s i=i then z else f (s i)
def Ee(md:Region.Mode)(ops:Array Oper)(n m z e:Nat)(s:Nat->Nat):Bool:=
 decide (ops.size=n+m)&&Region.noSelect ops &&
 (List.range n).all (λi=>(match ops[i]? with
   |some o=>o.guard.isNone&&(o.after.all λe=>!Region.binds md e||decide (e.on<i))&&(List.range n).all λj=>match gO ops j with
     |some t=>!(o.looksAt ops).contains t||hangs md ops (n+m) i j
     |none=>true
   |none=>false)&&(match gO ops i with|some t=>decide (t<z)|none=>true)&&(List.range n).all λj=>decide (i=j)||(match gO ops j with|some t=>gO ops i != σ t|none=>true)) &&
 (List.range m).all (λk=>(List.range n).all λj=>decide (j=e)||hangs md ops (n+m) (n+k) j) &&
 (List.range n).all λi=>decide (s i=i)||hangs md ops (n+m) i (s i)
theorem afh(I:Nat->υ->Nat->Nat->ω->Prop)(hc:Ee md ops p l a.tmps.size u s=true)
 (hE:∀b H u O w z,I b H u O w->δ w.heap.size w z->I b H u O z)
 (hs:∀b,b<p->∀o,ops[b]?=σ o->∀(val:Nat->υ) (j d:Nat->Nat) (w:ω),δ v.heap.size v w->ahh ops p o (λc=>I c (val c) (j c) (d c) w)->iR P o (SE ops a val p) w λH z=>I b H (vU s b j w.heap.size) (vU s b d z.heap.size) z/\δ w.heap.size w z)
 (F:u<p->∀(val:Nat->υ) (j d:Nat->Nat) (w:ω),δ v.heap.size v w->(∀b,b<p->b≠u->I b (val b) (j b) (d b) w/\v.heap.size<=j b/\j b<=d b/\d b<=w.heap.size)->(∀b c,b<p->c<p->b≠c->b≠u->c≠u->s b=b->s c=c->d b<=j c\/d c<=j b)->(∀b,b<p->b≠u->s b≠b->j b=j (s b)/\d b=d (s b))->∀b,p<=b->b∈Region.ready md ops (y9 p l λc=>decide (c≠u))->wpOp P ops Q b (wpAny P md ops Q l ((y9 p l λc=>decide (c≠u)).setIfInBounds b true)) (mY ops a val (λc=>decide (c≠u)) p) w)
 (iM:∀(val:Nat->υ) (j d:Nat->Nat) (w:ω),δ v.heap.size v w->(∀b,b<p->I b (val b) (j b) (d b) w/\v.heap.size<=j b/\j b<=d b/\d b<=w.heap.size)->(∀b c,b<p->c<p->b≠c->s b=b->s c=c->d b<=j c\/d c<=j b)->(∀b,b<p->s b≠b->j b=j (s b)/\d b=d (s b))->wpAny P md ops Q l (y9 p l λ_=>true) (mY ops a val (λ_=>true) p) w) :
 ∀(V:Nat) (val:Nat->υ) (j d:Nat->Nat) (i:Nat->Bool) (w:ω),yb i p=V->ahi md ops p l i->δ v.heap.size v w->(∀b,b<p->i b=true->I b (val b) (j b) (d b) w/\v.heap.size<=j b/\j b<=d b/\d b<=w.heap.size)->(∀b c,b<p->c<p->b≠c->i b=true->i c=true->s b=b->s c=c->d b<=j c\/d c<=j b)->(∀b,b<p->i b=true->s b≠b->i (s b)=true/\j b=j (s b)/\d b=d (s b))->
   wpAny P md ops Q (l+V) (y9 p l i) (mY ops a val i p) w:=by
 have Ci:=hc;unfold Ee at Ci;simp only[Bool.and_eq_true,decide_eq_true_eq,List.all_eq_true,List.mem_range,Bool.or_eq_true]at Ci;obtain⟨⟨⟨⟨nQ,a3⟩,am⟩,a1⟩,a4⟩:=Ci;have hz:∀c,c<p->∀m,gO ops c=σ m->m<a.tmps.size:=λc g m t=>by have:=(am c g).1.2;rw[t]at this;simpa using this
 have fE:∀b c,b<p->c<p->b≠c->∀m,gO ops c=σ m->gO ops b≠σ m:=λb c d g VE m t=>by
  have:=(am b d).2 c g;rw[t]at this;simpa[VE]using this
 have Bu:∀b,b<p->∃o,ops[b]?=σ o/\o.guard=ν/\(∀f∈o.after,Region.binds md f=true->f.on<b)/\∀c,c<p->∀m,gO ops c=σ m->(o.looksAt ops).contains m=true->hangs md ops (p+l) b c=true:=λb d=>by
  have:=(am b d).1.1
  cases r:ops[b]? with
  |none=>rw[r]at this;cases this
  |some o=>
    rw[r]at this;simp only[Bool.and_eq_true,Option.isNone_iff_eq_none,List.all_eq_true,List.mem_range,Array.all_eq_true_iff_forall_mem,Bool.or_eq_true,decide_eq_true_eq]at this;refine⟨o,rfl,this.1.1,λf he C=>((this.1.2 f he).resolve_left (by simp[C])),λc g m t F=>?_⟩;have k:=this.2 c g;rw[t]at k;simp only[F]at k;simpa using k
 intro V
 induction V with
 |zero=>
   intro val j d i w hk lZ C N CQ ac;have x:=KS hk;have e1:y9 p l i=y9 p l λ_=>true:=by
    apply ni;intro c;by_cases g:c<p+l
    . rw[qn g,qn g]
      by_cases aa:c<p
      . rw[x c aa]
      . simp[aa]
    . rw[dR (by simp[y9];omega),dR (by simp[y9];omega)]
   rw[e1,xq (val':=val) (d':=λ_=>true) (λc g=>⟨rfl,x c g⟩)];exact iM val j d w C (λb Jg=>N b Jg (x b Jg)) (λb c n k B=>CQ b c n k B (x b n) (x c k)) (λb n k=>(ac b n (x b n) k).2)
 |succ V ih=>
   intro val j d i w hk lZ C N CQ ac;have qS:∀b,b∈Region.ready md ops (y9 p l i)->b<p->i b=false:=λb d y=>by
    obtain⟨h0,o,r,W⟩:=mem_ready.1 d;have T:=(cW.mp r).1;rw[nQ]at T;have:=qn (d:=i) T;simp only[Array.getD_eq_getD_getElem?,this,Option.getD_some,y,decide_true,Bool.true_and]at h0;exact h0
   refine⟨λh0=>?_,λb X=>?_⟩
   . exfalso
     have ba:∃b,b<p/\i b=false:=by
      apply gJ;intro VC;have:∀e,e<=p->yb i e=0:=λe=>by
       induction e with
       |zero=>intro _;rfl
       |succ e ab=>
         intro G;unfold yb;rw[ab (by omega)]
         cases x:i e with
         |true=>rfl
         |false=>exact absurd ⟨e,by omega,x⟩ VC
      have:=this p (ae _);omega
     have a0:∀e,(∀b,b<e->i b=true)\/∃b,b<e/\i b=false/\∀c,c<b->i c=true:=λe=>by
      induction e with
      |zero=>exact .inl (λb d=>absurd d (by omega))
      |succ e ab=>
        rcases ab with O|⟨b,n,k⟩
        . cases x:i e with
          |true=>exact .inl (λb d=>by
            rcases lR b e with f|f
            . exact O b f
            . obtain rfl:b=e:=by omega
              exact x)
          |false=>exact .inr ⟨e,by omega,x,O⟩
        . exact .inr ⟨b,by omega,k⟩
     rcases a0 p with O|⟨b,ar,bb,bc⟩
     . obtain⟨b,n,k⟩:=ba
       rw[O b n]at k
       cases k
     . obtain⟨o,r,hg,lM,-⟩:=Bu b ar
       have sK:b∈Region.ready md ops (y9 p l i):=mem_ready.2 ⟨by rw[iA,qn (by omega)];simp[ar,bb],o,r,λf he C=>by
        have T:=lM f he C;rw[iA,qn (by omega)];simp[bc _ T];omega⟩
       rw[h0]at sK
       cases sK
   . rcases lR b p with y|y
     case inr=>
      obtain⟨-,o,r,W⟩:=mem_ready.1 X;have T:=(cW.mp r).1;rw[nQ]at T;have L:∀c,c<p->c≠u->i c=true:=λc g RE=>by
       have:=(a1 (b - p) (by omega) c g).resolve_left RE;rw[show p+(b - p)=b from by omega]at this;exact(xr lZ _ b c o r W this).2
      have lC:∀ad:Nat->Bool,(∀c,c<p->ad c=true)->yb ad p=0:=λad hf=>by
       have:∀e,e<=p->yb ad e=0:=λe=>by
        induction e with
        |zero=>intro _;rfl
        |succ e ab=>intro G;unfold yb;rw[ab (by omega),hf e (by omega)];rfl
       exact this p (ae _)
      have zX:u<p:=by
       rcases lR u p with f|f
       . exact f
       . have:=lC i (λc g=>L c g (by omega))
         omega
      have Gb:i u=false:=by
       cases x:i u with
       |false=>rfl
       |true=>
         have:=lC i (λc g=>by
          by_cases f:c=u
          . rw[f];exact x
          . exact L c g f)
         omega
      obtain rfl:V=0:=by
       have n:=H7 Gb zX;have k:=lC (Nx i u true) (λc g=>by
        by_cases f:c=u
        . rw[f];exact lN _ _ _
        . rw[dw _ _ f];exact L c g f)
       omega
      have aq:∀c,c<p->i c=decide (c≠u):=λc g=>by
       by_cases f:c=u
       . subst f;rw[Gb];simp
       . rw[L c g f];simp[f]
      have e1:y9 p l i=y9 p l λc=>decide (c≠u):=by
       apply ni;intro c;by_cases g:c<p+l
       . rw[qn g,qn g]
         by_cases aa:c<p
         . rw[aq c aa]
         . simp[aa]
       . rw[dR (by simp[y9];omega),dR (by simp[y9];omega)]
      rw[e1]at X ⊢;rw[xq (val':=val) (d':=λc=>decide (c≠u)) (λc g=>⟨rfl,aq c g⟩)];exact F zX val j d w C (λe G vz=>N e G (L e G vz)) (λe q n k B Y h5=>CQ e q n k B (L e n Y) (L q k h5)) (λe n k B=>(ac e n (L e n k) B).2) b y X
     have Zx:=qS b X y;obtain⟨-,o,r,W⟩:=mem_ready.1 X;obtain⟨o',ax,hg,-,a2⟩:=Bu b y;rw[r]at ax
     cases ax
     have a5:o.dst=gO ops b:=by simp[gO,r]
     have av:∀c,c<p->∀m,gO ops c=σ m->(o.looksAt ops).contains m=true->i c=true:=λc g m t F=>(xr lZ _ b c o r W (a2 c g m t F)).2;have a9:execOp (mY ops a val i p).eval o=execOp (SE ops a val p) o:=by
      refine execOp_congr o (λcs a6=>Region.noSelect_spec a3 b o cs a6 r) λbe hx=>Xb hz fE λc g m bd t=>av c g m t ?_;subst bd;simp only[List.contains_iff_mem];exact eF _ (List.mem_filterMap.2 ⟨.tmp m,by simpa using hx,rfl⟩)
     have hM:=hs b y o r val j d w C (λc g F=>by
      cases t:gO ops c with
      |none=>rw[t]at F;cases F
      |some m=>rw[t]at F;exact(N c g (av c g m t F)).1)
     have vO:s b≠b->s b<p/\i (s b)=true:=λf=>xr lZ _ b (s b) o r W ((a4 b y).resolve_left f);have a8:iR P o (mY ops a val i p).eval w λH z=>I b H (vU s b j w.heap.size) (vU s b d z.heap.size) z/\δ w.heap.size w z:=by unfold iR at hM ⊢;rw[a9];exact hM
     unfold wpOp;simp only[r];rw[aF (by simp[Region.wanted,hg])];refine .inl (a8.wp λH z ⟨he,lx⟩=>?_);rw[a5,OL H Zx y (λc g E m t=>fE b c y g (λf=>E f.symm) m t),UX y];refine ih (Nx val b H) (Nx j b (vU s b j w.heap.size)) (Nx d b (vU s b d z.heap.size)) (Nx i b true) z (by have:=H7 Zx y;omega) ?_ (C.trans (lx.mono C.size)) ?_ ?_ ?_
     . intro c oj g Z an f Gu ap
       rw[<- UX y];refine getD_set_true ?_;by_cases E:c=b
       . subst E
         rw[r]at an
         cases an
         exact W f Gu ap
       . rw[dw _ _ E]at Z
         exact lZ c oj g Z an f Gu ap
     . intro c g Z
       by_cases E:c=b
       . subst E
         rw[lN,lN,lN];refine⟨he,?_⟩;unfold vU;by_cases f:s c=c
         . rw[aF f,aF f]
           exact⟨C.size,lx.size,ae _⟩
         . rw[aE f,aE f]
           obtain⟨-,k,B,Y⟩:=N _ (vO f).1 (vO f).2;exact⟨k,B,ag Y lx.size⟩
       . rw[dw _ _ E]at Z
         rw[dw _ _ E,dw _ _ E,dw _ _ E];obtain⟨n,k,B,Y⟩:=N c g Z;exact⟨hE _ _ _ _ _ _ n lx,k,B,ag Y lx.size⟩
     . intro e q G hq aC U al D ao
       by_cases A:e=b
       . subst A
         have M:q≠e:=λf=>aC f.symm;rw[dw _ _ M]at al;rw[lN,lN,dw _ _ M,dw _ _ M,vU,vU,aF D,aF D];exact .inr (N q hq al).2.2.2
       . rw[dw _ _ A]at U
         by_cases M:q=b
         . subst M
           rw[lN,lN,dw _ _ A,dw _ _ A,vU,vU,aF ao,aF ao];exact .inl (N e G U).2.2.2
         . rw[dw _ _ M]at al
           rw[dw _ _ A,dw _ _ A,dw _ _ M,dw _ _ M];exact CQ e q G hq aC U al D ao
     . intro e G U D
       by_cases A:e=b
       . subst A
         rw[dw _ _ D,dw _ _ D,dw _ _ D,lN,lN,vU,vU,aE D,aE D];exact⟨(vO D).2,rfl,rfl⟩
       . rw[dw _ _ A]at U
         obtain⟨n,k,B⟩:=ac e G U D;have WS:s e≠b:=λf=>by rw[f,Zx]at n;cases n
         rw[dw _ _ WS,dw _ _ WS,dw _ _ WS,dw _ _ A,dw _ _ A];exact⟨n,k,B⟩
structure FN where
 p:υ->Nat->Nat->ω->Prop
 st:∀v l h w w',p v l h w->δ w.heap.size w w'->p v l h w'
def FN.is(c:υ):FN:=⟨λv _ _ _=>v=c,λ_ _ _ _ _ h _=>h⟩
def FN.box(cs:Array υ)(t:TypeId):FN:=⟨λv l h w=>h=l+1/\v=π (σ ⟨l,0,ν⟩)/\w.heap[l]?=σ (ξ cs t (0,0)),λ_ l _ _ _ h hb=>⟨h.1,h.2.1,(hb.block l (aw h.2.2)).trans h.2.2⟩⟩
def vV(L:List FN)(i:Nat):FN:=(L[i]?).getD (.is undef)
def SG(ops:Array Oper)(a:Act)(L:List FN)(n:Nat)(ρ:Operand->υ)(lo hi:Nat->Nat)(w:ω)(x:Operand):Prop:=match x with
 |.tmp t=>match(List.range n).find? (λj=>gO ops j==σ t)with
   |some j=>(vV L j).p (ρ x) (lo j) (hi j) w
   |none=>ρ x=a.tmps.getD t undef
 |x=>ρ x=a.eval x
def Gh(p:Operand->Prop):List Operand->Prop
 |[]=>True
 |x::l=>p x/\Gh p l
theorem E3{d:Operand->Prop}:∀{c:List Operand},(∀b∈c,d b)->Gh d c
 |[],_=>trivial
 |b::_,h=>⟨h b (dv ..),E3 λf e=>h f (cy _ e)⟩
def CS(P:Program)(ops:Array Oper)(a:Act)(W0:ω)(L:List FN)(n i:Nat):Prop:=match ops[i]? with
 |some o=>∀(ρ:Operand->υ) (lo hi:Nat->Nat) (w:ω),δ W0.heap.size W0 w->Gh (SG ops a L n ρ lo hi w) o.op.operands.toList->iR P o ρ w λv w'=>(vV L i).p v w.heap.size w'.heap.size w'/\δ w.heap.size w w'
 |none=>True
def tQ(P:Program)(ops:Array Oper)(a:Act)(W0:ω)(L:List FN)(s:Nat->Nat)(n i:Nat):Prop:=match ops[i]? with
 |some o=>∀(ρ:Operand->υ) (lo hi:Nat->Nat) (w:ω),δ W0.heap.size W0 w->Gh (SG ops a L n ρ lo hi w) o.op.operands.toList->iR P o ρ w λv w'=>(vV L i).p v (vU s i lo w.heap.size) (vU s i hi w'.heap.size) w'/\δ w.heap.size w w'
 |none=>True
theorem tQ.run{d:List FN}(e:tQ P ops a v d s p l)(t:ops[l]?=σ o)(val:Nat->υ)(g f:Nat->Nat)(m:δ v.heap.size v w)(n:ahh ops p o (λb=>(vV d b).p (val b) (g b) (f b) w)):iR P o (SE ops a val p) w λk i=>(vV d l).p k (vU s l g w.heap.size) (vU s l f i.heap.size) i/\δ w.heap.size w i:=by
 unfold tQ at e;rw[t]at e;refine e (SE ops a val p) g f w m (E3 λy x=>?_)
 cases y with
 |tmp c=>
   unfold SG;simp only;have j:SE ops a val p (.tmp c)=match(List.range p).find? (λb=>gO ops b==σ c)with
    |some b=>val b
    |none=>a.eval (.tmp c):=rfl
   cases hf:(List.range p).find? (λb=>gO ops b==σ c)with
   |none=>rw[j,hf];rfl
   |some b=>
     rw[j,hf];have r:=dB.mp (jo hf);have u:gO ops b=σ c:=by have:=List.find?_some hf;simpa using this
     refine n b r ?_;rw[u];simp only[List.contains_iff_mem];exact eF _ (List.mem_filterMap.2 ⟨.tmp c,x,rfl⟩)
 |const k=>rfl
 |global A=>rfl
 |func z=>rfl
theorem OO{W0:ω}(i:Nat->Nat)(j:List FN)(D:a.tmps.size=u)(m:Ee md ops p l u b i=true)(C:H6 (tQ P ops a W0 j i p) p)
 (A:b<p->∀(val:Nat->υ) (g f:Nat->Nat) (w:ω),δ W0.heap.size W0 w->(∀c,c<p->c≠b->(vV j c).p (val c) (g c) (f c) w/\W0.heap.size<=g c/\g c<=f c/\f c<=w.heap.size)->(∀c d,c<p->d<p->c≠d->c≠b->d≠b->i c=c->i d=d->f c<=g d\/f d<=g c)->(∀c,c<p->c≠b->i c≠c->g c=g (i c)/\f c=f (i c))->∀c,p<=c->c∈Region.ready md ops (y9 p l λd=>decide (d≠b))->wpOp P ops Q c (wpAny P md ops Q l ((y9 p l λd=>decide (d≠b)).setIfInBounds c true)) (mY ops a val (λd=>decide (d≠b)) p) w)
 (E:∀(val:Nat->υ) (g f:Nat->Nat) (w:ω),δ W0.heap.size W0 w->(∀c,c<p->(vV j c).p (val c) (g c) (f c) w/\W0.heap.size<=g c/\g c<=f c/\f c<=w.heap.size)->(∀c d,c<p->d<p->c≠d->i c=c->i d=d->f c<=g d\/f d<=g c)->(∀c,c<p->i c≠c->g c=g (i c)/\f c=f (i c))->wpAny P md ops Q l (y9 p l λ_=>true) (mY ops a val (λ_=>true) p) w) :
 wpAny P md ops Q ops.size (Array.replicate ops.size false) a W0:=by
 subst D;have G:ops.size=p+l:=(by have e:=m;unfold Ee at e;simp only[Bool.and_eq_true,decide_eq_true_eq]at e;exact e.1.1.1.1);have e:=afh (λc=>(vV j c).p) m (λc H b e w I v x=>(vV j c).st H b e w I v x) (λc f o B val g r w y z=>(C.get c f).run B val g r y z) A E p (λ_=>undef) (λ_=>0) (λ_=>0) (λ_=>false) W0 (OM p) (λ_ _ _ e=>by cases e) (ah _ _) (λ_ _ e=>by cases e) (λ_ _ _ _ _ e=>by cases e) (λ_ _ e=>by cases e);have s:y9 p l (λ_=>false)=Array.replicate ops.size false:=(by rw[G];apply ni;intro d;by_cases n:d<p+l;{rw[qn n];simp[n]};rw[dR (by simp[y9];omega),dR (by simp;omega)]);have t:∀k,mY ops a (λ_=>undef) (λ_=>false) k=a:=λk=>by
  induction k with
  |zero=>rfl
  |succ k F=>unfold mY;rw[aE (by simp)];exact F
 rw[s,t]at e;rw[show ops.size=l+p from by omega]at e ⊢;exact e
theorem ajI{i:Nat}{K:Act->ω->Prop}(f:ops[i]?=σ o)(e:o.guard=ν)(b:iR P o a.eval w λc d=>K (a.put o.dst c) d):wpOp P ops Q i K a w:=by unfold wpOp;simp only[f];rw[aF (by simp[Region.wanted,e])];exact .inl (b.wp λc d b=>b)
theorem OP{id n m z l q:Nat}(f:Nat->Nat)(i:List FN)(k:P.follows .mixedOrders=true)(_hln:l<n)(y:a.tmps.size=z)(t:Ee .any ops n m z l f=true)(v:(Region.ready .any ops (y9 n m λc=>decide (c≠l))).all (λb=>decide (b<n)||decide (b=q))=true)(x:H6 (tQ P ops a w.drew i f n) n)
 (u:∀(val:Nat->υ) (e d:Nat->Nat) (g:ω),δ w.heap.size w g->(∀b,b<n->b≠l->(vV i b).p (val b) (e b) (d b) g/\w.heap.size<=e b/\e b<=d b/\d b<=g.heap.size)->(∀b c,b<n->c<n->b≠c->b≠l->c≠l->f b=b->f c=c->d b<=e c\/d c<=e b)->(∀b,b<n->b≠l->f b≠b->e b=e (f b)/\d b=d (f b))->wpOp P ops Q q (wpAny P .any ops Q m ((y9 n m λc=>decide (c≠l)).setIfInBounds q true)) (mY ops a val (λc=>decide (c≠l)) n) g)
 (A:∀(val:Nat->υ) (e d:Nat->Nat) (g:ω),δ w.heap.size w g->(∀b,b<n->(vV i b).p (val b) (e b) (d b) g/\w.heap.size<=e b/\e b<=d b/\d b<=g.heap.size)->(∀b c,b<n->c<n->b≠c->f b=b->f c=c->d b<=e c\/d c<=e b)->(∀b,b<n->f b≠b->e b=e (f b)/\d b=d (f b))->wpAny P .any ops Q m (y9 n m λ_=>true) (mY ops a val (λ_=>true) n) g) :
 (Code.region id ops true).wp P Q a w:=
 wp_region_any k (OO (W0:=w.drew) f i y t x (λ_ val e d g j p r s b B k=>by
  have:=ez.mp v b k;obtain rfl:b=q:=by simp at this;omega
  exact u val e d g ((aH (ah w.heap.size w)).trans j) p r s) λval e d g j=>A val e d g ((aH (ah w.heap.size w)).trans j))
def ahj(md:Region.Mode)(ops:Array Oper)(n m z:Nat):Bool:=Ee md ops n m z n λi=>i
theorem CS.two{b:List FN}(c:CS P ops a v b p l):tQ P ops a v b (λl=>l) p l:=by unfold CS at c;unfold tQ;simp only[vU,if_true];exact c
theorem H6.mono{q:Nat->Prop}(b:∀c,r c->q c):∀{d:Nat},H6 r d->H6 q d
 |0,_=>trivial
 |_+1,k=>⟨H6.mono b k.1,b _ k.2⟩
theorem UY{n m z:Nat}{W0:ω}(f:List FN)(t:a.tmps.size=z)(r:ahj md ops n m z=true)(s:H6 (CS P ops a W0 f n) n)
 (u:∀(val:Nat->υ) (d c:Nat->Nat) (w:ω),δ W0.heap.size W0 w->(∀b,b<n->(vV f b).p (val b) (d b) (c b) w/\W0.heap.size<=d b/\d b<=c b/\c b<=w.heap.size)->(∀b e,b<n->e<n->b≠e->c b<=d e\/c e<=d b)->wpAny P md ops Q m (y9 n m λ_=>true) (mY ops a val (λ_=>true) n) w) :
 wpAny P md ops Q ops.size (Array.replicate ops.size false) a W0:=
 OO (λb=>b) f t r (s.mono λ_ g=>g.two) (λg=>absurd g (bO _)) (λval d c w k l p _=>u val d c w k l (λb e a i j=>p b e a i j rfl rfl))
theorem q6{id n m z:Nat}(g:List FN)(k:P.follows .mixedOrders=true)(p:a.tmps.size=z)(j:ahj .any ops n m z=true)(l:H6 (CS P ops a w.drew g n) n)
 (r:∀(val:Nat->υ) (d c:Nat->Nat) (e:ω),δ w.heap.size w e->(∀b,b<n->(vV g b).p (val b) (d b) (c b) e/\w.heap.size<=d b/\d b<=c b/\c b<=e.heap.size)->(∀b f,b<n->f<n->b≠f->c b<=d f\/c f<=d b)->wpAny P .any ops Q m (y9 n m λ_=>true) (mY ops a val (λ_=>true) n) e) :
 (Code.region id ops true).wp P Q a w:=
 wp_region_any k (UY (W0:=w.drew) g p j l λval d c e i=>r val d c e ((aH (ah w.heap.size w)).trans i))
theorem nu{i:Nat}{o:Oper}(c:Region.ready md ops x=[i])(k:ops[i]?=σ o)(j:o.guard=ν)(b:iR P o a.eval w λe f=>wpAny P md ops Q p (x.setIfInBounds i true) (a.put o.dst e) f):wpAny P md ops Q (p+1) x a w:=by refine⟨λg=>(by rw[g]at c;cases c),λl d=>?_⟩;rw[c]at d;obtain rfl:=bj.mp d;unfold wpOp;simp only[k];rw[aF (by simp[Region.wanted,j])];exact .inl (b.wp λe f b=>b)
theorem qo(c:Region.ready md ops x=[])(b:Q .normal a w):∀d,wpAny P md ops Q d x a w
 |0=>⟨c,b⟩
 |_+1=>⟨λ_=>b,by rw[c];simp⟩
theorem rP{id:Nat}{S:ω->Prop}(c:P.follows .mixedOrders=true)(b:wpAnyH P .any ops Q S ops.size (Array.replicate ops.size false) a w.drew):(Code.region id ops true).wp P Q a w:=wp_region_any c (wpAny_of_held _ _ _ _ b)
end
theorem kT{P:Program}{ops:Array Oper}{Q:Exit->Act->ω->Prop}{md:Region.Mode}{S:ω->Prop}{i:Nat}{o:Oper}{a:Act}{w:ω}(g:ops[i]?=σ o)(b:(Region.noSelect ops&&Region.free md ops x i&&(Region.ready md ops x).contains i&&o.guard.isNone)=true)(e:∀c a w,¬Q (.panic c) a w)(j:∀w,S w->(execOp a.eval o).run P w=.ok (.value m) w)(f:S w)(d:wpAnyH P md ops Q S p (x.setIfInBounds i true) (a.put o.dst m) w):wpAnyH P md ops Q S (p+1) x a w:=by simp only[Bool.and_eq_true,Option.isNone_iff_eq_none]at b;exact wpAnyH_take g b.1.1.1 b.1.1.2 b.1.2 (λc a w d=>absurd d (e c _ w)) (.inl ⟨by simp[Region.wanted,b.2],j⟩) f d
theorem qO{P:Program}{ops:Array Oper}{Q:Exit->Act->ω->Prop}{md:Region.Mode}{S:ω->Prop}{i:Nat}{o:Oper}{a:Act}{w:ω}(c:Region.ready md ops x=[i])(k:ops[i]?=σ o)(j:o.guard=ν)(b:iR P o a.eval w λf d=>S d/\wpAnyH P md ops Q S p (x.setIfInBounds i true) (a.put o.dst f) d):wpAnyH P md ops Q S (p+1) x a w:=by refine⟨λg=>(by rw[g]at c;cases c),λl e=>?_⟩;rw[c]at e;obtain rfl:=bj.mp e;unfold wpOp;simp only[k];rw[aF (by simp[Region.wanted,j])];exact .inl (b.wp λf d b=>b)
theorem Xc(b c:aD)(w:ω):Calls prog 228 #[kA b,kA c] w λf j=>f=τ (ι κ (NQ b c))/\δ w.heap.size w j:=by
 obtain⟨g,k⟩:=nm ((w.alloc (ru b.null b.n b.s)).alloc (ru c.null c.n c.s));have e:=vC k;have r:g.heap[w.heap.size]?=σ (ru b.null b.n b.s):=by rw[k];exact(ct _ _ _ (by simp)).trans (au w _)
 have s:g.heap[w.heap.size+1]?=σ (ru c.null c.n c.s):=by rw[k];have:=au (w.alloc (ru b.null b.n b.s)) (ru c.null c.n c.s);simpa using this
 obtain⟨F,v,x⟩:=kL r;obtain⟨G,y,z⟩:=kL s;have t:=e;have B:=ak k;unfold kA;have n:Hid (w.heap.size<g.heap.size/\w.heap.size+1<g.heap.size):=ak ⟨aw r,aw s⟩;clear e k r s;go_in;go_wp2_with fail;rw[<- B.J];have A:prog.follows .mixedOrders=true:=by kernel_rfl
 have C:∀d,δ g.drew.heap.size g.drew d->(d.cell? (Ad w.heap.size 1)=σ (ι κ b.n)/\d.cell? (Ad w.heap.size 2)=σ (θ b.s))/\d.cell? (Ad (w.heap.size+1) 1)=σ (ι κ c.n)/\d.cell? (Ad (w.heap.size+1) 2)=σ (θ c.s):=λd e=>⟨⟨(e.cell (p:=(Ad _ 1)) n.J.1).trans v,(e.cell (p:=(Ad _ 2)) n.J.1).trans x⟩,(e.cell (p:=(Ad _ 1)) n.J.2).trans y,(e.cell (p:=(Ad _ 2)) n.J.2).trans z⟩;clear F v x G y z;refine q6 (n:=12) (m:=1) (z:=17) [.is (π (σ (Ad w.heap.size 1))),.is (ι κ b.n),.is (π (σ (Ad (w.heap.size+1) 1))),.is (ι κ c.n),.is (ι κ (NP b.n c.n)),.is (π (σ (Ad w.heap.size 2))),.is (θ b.s),.is (π (σ (Ad (w.heap.size+1) 2))),.is (θ c.s),.is (ι κ (EI b.s.toList c.s.toList)),⟨λH u _ d=>H=ψ (σ (Ad u 0)) 2 2/\d.heap[u]?=σ (ξ #[ι κ (NP b.n c.n),ι κ (EI b.s.toList c.s.toList)] 3 (0,0)),λ_ _ _ _ _ i e=>⟨i.1,(e.block _ (aw i.2)).trans i.2⟩⟩,.is (ι κ (NQ b c))] A rfl (by kernel_rfl) ⟨⟨⟨⟨⟨⟨⟨⟨⟨⟨⟨⟨trivial,?_⟩,?_⟩,?_⟩,?_⟩,?s4⟩,?_⟩,?_⟩,?_⟩,?_⟩,?s9⟩,?s10⟩,?s11⟩ ?fin;(case s4=>refineλρ m l d e ⟨hf,(f:ρ (.tmp 6)=_),(p:ρ (.tmp 8)=_),_⟩=>eT rfl hf call242 (by simp[f,p]) (ZT b.n c.n d) ?_;rintro f j ⟨rfl,rfl⟩;exact⟨_,rfl,rfl,ah _ _⟩);(case s9=>refineλρ m l d e ⟨hf,(f:ρ (.tmp 11)=_),(p:ρ (.tmp 13)=_),_⟩=>eT rfl hf call243 (by simp[f,p]) (ZU b.s c.s d) ?_;rintro f j ⟨rfl,rfl⟩;exact⟨_,rfl,rfl,ah _ _⟩);(case s10=>refineλρ m l d e ⟨(f:ρ _=_),(p:ρ _=_),_⟩=>fj (v:=ψ (σ (Ad d.heap.size 0)) 2 2) (w':=d.alloc (ξ #[ι κ (NP b.n c.n),ι κ (EI b.s.toList c.s.toList)] 3)) ?_ ⟨⟨rfl,au d _⟩,(ah _ _).alloc (ae _) _⟩;go_simp);(case s11=>refineλρ m l d e ⟨hf,⟨(f:ρ (.tmp 15)=_),i⟩,_⟩=>eT rfl hf call241 (by simp[f]) (aiF _ _ _ 2 d (aR i).1 (aR i).2) ?_;rintro f j ⟨rfl,D⟩;exact⟨_,rfl,rfl,D⟩);(case fin=>intro val m l j e E _;have I:val 11=_:=(E 11 (by decide)).1;simp[mY,gO,Act.put];refine nu (i:=12) (by kernel_rfl) rfl rfl (fj (w':=j) (v:=ι κ (NQ b c)) (by go_simp) (qo (by kernel_rfl) ?_ _));simp[Act.put];go_wp2_with fail;go_ret;exact⟨rfl,t.trans (e.mono t.size)⟩);all_goals(refineλρ m l d e ⟨(f:ρ _=_),_⟩=>fj (w':=d) ?_ ⟨rfl,ah _ _⟩;obtain⟨⟨L,M⟩,N,O⟩:=C d e;go_simp)
theorem aaV(w:ω)(c d:aD){q:Nat}(f:w.heap[q]?=σ (ξ #[m] t (0,0))):∃b,b=((w.alloc (nH c)).alloc (nH d)).alloc qm/\δ w.heap.size w b/\b.heap[w.heap.size+2]?=σ qm/\
 (b.cell? ⟨w.heap.size,0,ν⟩=σ (.bool c.null)/\b.cell? ⟨w.heap.size,1,ν⟩=σ (ι κ c.n)/\b.cell? ⟨w.heap.size,2,ν⟩=σ (θ c.s))/\(b.cell? ⟨w.heap.size+1,0,ν⟩=σ (.bool d.null)/\b.cell? ⟨w.heap.size+1,1,ν⟩=σ (ι κ d.n)/\b.cell? ⟨w.heap.size+1,2,ν⟩=σ (θ d.s))/\(b.cell? ⟨q,0,ν⟩=σ m/\q<b.heap.size)/\(w.heap.size<b.heap.size/\w.heap.size+1<b.heap.size):=by have e:=Hz w (nH c) (nH d) qm;have g:=fX w (nH c) (nH d);have i:=(ct ((w.alloc (nH c)).alloc (nH d)) qm w.heap.size (by simp;omega)).trans g.2.2;have j:=(ct ((w.alloc (nH c)).alloc (nH d)) qm (w.heap.size+1) (by simp)).trans g.2.1;exact⟨_,rfl,e.1,e.2,kL i,kL j,⟨cell0 ((e.1.block q (aw f)).trans f) 0,ai (aw f) e.1.size⟩,aw i,aw j⟩
theorem ajK(o:Nat)(y:5<=o)(s:o<=10)(c d:aD){q:Nat}{w:ω}(k:w.heap[q]?=σ (ξ #[ι κ o] t (0,0))):Calls prog 226 #[kA c,kA d,π (σ ⟨q,0,ν⟩)] w λg E=>g=τ (yF (.inl (jL (BK o (NQ c d)))))/\δ w.heap.size w E:=by
 obtain⟨f,B,C,D,⟨Z,l1,l2⟩,⟨r0,r1,r2⟩,⟨N,T⟩,Y⟩:=aaV w c d k;have u:=ak (λb=>Xc c d b);have H:=ak (λb=>WV o y s (NQ c d) b);have v:=ak (λb=>td (BK o (NQ c d)) b);have L:=ak (λb (j:δ _ _ b)=>WX D C j (by omega));have M:=ak B;have F:=ak (λb (j:δ f.heap.size f b)=>(j.cell (p:=⟨q,0,ν⟩) T).trans N);obtain⟨aa,ab,ac,X,pl,O,A⟩:=jw (.inl (jL (BK o (NQ c d))));rw[A]at v ⊢;have V:=aw k;clear k y s B C D O A;unfold kA at u ⊢;go_in;go_wp2_with fail;rw[<- M.J];go_region_with(first
  | (go_at_call 228;refine(u.J _).mono ?_;rintro g b ⟨rfl,e⟩;have i:=(aH (ah f.heap.size f)).trans e;have W:=F.J b i;have x:=ak i;clear e i)
  | (go_at_call 227;refine(H.J _).mono ?_;rintro g E ⟨rfl,rfl⟩)
  | (go_at_call 157;refine(v.J _).mono ?_;rintro g U ⟨rfl,e⟩;obtain⟨⟨l,m,n,p,r⟩,⟨z0,z1,z2,z3,z4⟩,z⟩:=L.J U (x.J.trans (e.mono x.J.size));have G:=ak z;have I:=ak (And.intro l (And.intro m (And.intro n (And.intro p r))));clear e z))
 all_goals((try go_wp2_with fail);(try simp only[Exit.inBlock,Exit.then]);obtain⟨l,m,n,p,r⟩:=I.J;refine aB (by simp[results,results226,go_sem,l,m,n,p,r];rfl) rfl ?_;exact⟨rfl,G.J _ _ _ _ _⟩)
theorem afn{a w:ω}{i q p y:Nat}{ac t':TypeId}{F:υ}(hw:KR a i F y)(Y:ft i a.heap.size a w)(n:w.heap[q]?=σ (ξ #[F] ac (0,0)))(o:Nat)(O:o<=4)(e f:aD)(z:w.heap[p]?=σ (ξ #[ι κ o] t' (0,0))):Calls prog 229 #[kA e,kA f,π (σ (Ad q 0)),π (σ (Ad p 0))] w λd l=>d=τ (yF (Ec y (tO o e.n f.n)))/\δ w.heap.size w l:=by
 obtain⟨x,s,rfl,D,U⟩:=hw;obtain⟨m,X,b,hz,⟨l0,l1,l2⟩,⟨r0,r1,r2⟩,⟨L,aa⟩,E⟩:=aaV w e f z;have H:=ak (λg (k:δ _ _ g)=>WX hz b k (by omega));have B:=ak (λg (k:δ _ _ g)=>show g.cell? (Ad q 0)=σ (.func (.func x) #[] s)from cell0 ((k.block q (ai (aw n) b.size)).trans ((b.block q (aw n)).trans n)) 0);have FF:=B.J _ (ah _ _);have Je:=aw n;have an:=aw z;have r:=ajB o O e.n f.n;obtain⟨j,Z⟩:=nm (tO o e.n f.n);rw[<- Z]at r ⊢;have A:=ak (λg (k:δ _ _ g)=>U g ((Y.below b).below k) j);have I:=ak X;obtain⟨ad,al,am,N,ab,hL,W⟩:=jw (Ec y j);rw[W]at A ⊢;unfold BJ at r;unfold Enters at D;unfold kA;go_in;go_wp2_with fail;rw[<- I.J];have C:∀c,δ m.drew.heap.size m.drew c->c.cell? (Ad q 0)=σ (.func (.func x) #[] s)/\c.cell? (Ad p 0)=σ (ι κ o)/\c.cell? (Ad w.heap.size 1)=σ (ι κ e.n)/\c.cell? (Ad (w.heap.size+1) 1)=σ (ι κ f.n)/\δ m.heap.size m c:=λc b=>⟨B.J c ((aH (ah _ _)).trans b),(b.cell (p:=(Ad p 0)) aa).trans L,(b.cell (p:=(Ad _ 1)) E.1).trans l1,(b.cell (p:=(Ad _ 1)) E.2).trans r1,(aH (ah _ _)).trans b⟩;have G:prog.follows .mixedOrders=true:=by kernel_rfl
 refine q6 (n:=10) (m:=1) (z:=17) [.is (.func (.func x) #[] s),.is (ι κ o),.is (π (σ (Ad w.heap.size 1))),.is (ι κ e.n),.is (π (σ (Ad (w.heap.size+1) 1))),.is (ι κ f.n),.is (.tuple #[ι κ j.1,.bool j.2]),.is (ι κ j.1),.is (.bool j.2),.is (χ #[.bool ad,ι κ al,θ am,ι κ N,ι κ ab])] G rfl (by kernel_rfl) ⟨⟨⟨⟨⟨⟨⟨⟨⟨⟨trivial,?_⟩,?_⟩,?_⟩,?_⟩,?_⟩,?_⟩,?s6⟩,?_⟩,?_⟩,?s9⟩ ?fin;(case s6=>refineλρ i v c b ⟨u,(d:ρ (.tmp 8)=_),(t:ρ (.tmp 10)=_),(M:ρ (.tmp 12)=_),_⟩=>eT rfl u call230 (by simp[d,t,M]) (r c) ?_;rintro d l ⟨rfl,b⟩;exact⟨_,rfl,rfl,b⟩);(case s9=>refineλρ i v c b ⟨(u:ρ (.tmp 7)=_),(d:ρ (.tmp 14)=_),(t:ρ (.tmp 15)=_),_⟩=>eT rfl u D (by simp[d,t]) (A.J c (C c b).2.2.2.2) ?_;rintro d l ⟨rfl,b⟩;exact⟨_,rfl,rfl,b⟩);(case fin=>intro val i v l b hv _;have T:val 9=_:=(hv 9 (by decide)).1;obtain⟨⟨q0,q1,q2,q3,q4⟩,⟨z0,z1,z2,z3,z4⟩,V⟩:=H.J l b;simp[mY,gO,Act.put,T];refine nu (i:=10) (by kernel_rfl) rfl rfl ?_;unfold iR;go_simp;refine qo (by kernel_rfl) ?_ _;(try simp[Act.put]);go_wp2_with fail;refine aB (by simp[results,results229,go_sem,q0,q1,q2,q3,q4];rfl) rfl ?_;exact⟨rfl,V _ _ _ _ _⟩);all_goals(refineλρ i v c b ⟨(d:ρ _=_),_⟩=>fj (w':=c) ?_ ⟨rfl,ah _ _⟩;obtain⟨x1,x2,x3,x4,-⟩:=C c b;go_simp)
theorem dJ.keep{a:ω}{ok:List aD->Prop}{b:List aD->dj}(e:dJ a p m ok b)(j:δ a.heap.size a v):dJ v p m ok b:=by obtain⟨l,d,k,g,f⟩:=e;exact⟨l,d,k,g,λc i=>f c (ft.back j i)⟩
theorem vG.keep{a:ω}{ok:aD->Prop}{b:aD->dj}(e:vG a p m ok b)(j:δ a.heap.size a v):vG v p m ok b:=by obtain⟨l,d,k,g,f⟩:=e;exact⟨l,d,k,g,λc i=>f c (ft.back j i)⟩
theorem wV.keep{a:ω}{ok:aD->aD->Prop}{b:aD->aD->dj}(e:wV a p m ok b)(j:δ a.heap.size a v):wV v p m ok b:=by obtain⟨l,d,k,g,f⟩:=e;exact⟨l,d,k,g,λc i=>f c (ft.back j i)⟩
abbrev OQ:aD->Prop:=λ_=>True
abbrev OT:aD->aD->Prop:=λ_ _=>True
theorem H8{w:ω}{b:aD->dj}(f:vG w p m OQ b)(s:p<=w.heap.size) :
 Calls prog 178 #[m] w λt i=>∃j,t=τ j/\vG i p j OQ (unO b)/\δ w.heap.size w i:=by have k:=f;obtain⟨g,c,rfl,-⟩:=f;have d:δ w.heap.size w (w.alloc (ξ #[.func (.func g) #[] c] 322)):=(ah _ _).alloc (ae _) _;have l:Hid (vG (w.alloc (ξ #[.func (.func g) #[] c] 322)) p (.func (.func 200) #[] #[π (σ (Ad w.heap.size 0))]) OQ (unO b)):=ak ⟨_,_,rfl,call200,λu e n r=>anM k (ft.back d e) (e.block s (au w _)) n r⟩;go_in;go_wp2_with fail;go_ret;exact⟨_,rfl,l.J,d⟩
theorem CU{w:ω}{ok:List aD->Prop}{c:List aD->dj}{d:aD->dj}(g:dJ w p m ok c)(i:vG w p k OQ d)(D:p<=w.heap.size) :
 Calls prog 176 #[m,k] w λE s=>∃r,E=τ r/\dJ s p r ok (λrow=>sD d (c row))/\δ w.heap.size w s:=by have v:=g;have x:=i;obtain⟨l,f,rfl,-⟩:=g;obtain⟨n,j,rfl,-⟩:=i;have b:=fX w (ξ #[.func (.func l) #[] f] 141) (ξ #[.func (.func n) #[] j] 322);have y:Hid (dJ ((w.alloc (ξ #[.func (.func l) #[] f] 141)).alloc (ξ #[.func (.func n) #[] j] 322)) p (.func (.func 199) #[] #[π (σ (Ad w.heap.size 0)),π (σ (Ad (w.heap.size+1) 0))]) ok (λrow=>sD d (c row))):=ak ⟨_,_,rfl,call199,λF e G H L I z t A B C=>aiQ v x (λ_ _ _ _=>trivial) (ft.back b.1 e) (e.block D b.2.2) (e.block (by omega) b.2.1) z t A B C⟩;have u:=b.1;go_in;go_wp2_with fail;go_ret;exact⟨_,rfl,y.J,u⟩
theorem Xd(w:ω)(o b c:Obj):δ w.heap.size w (((w.alloc o).alloc b).alloc c)/\(((w.alloc o).alloc b).alloc c).heap[w.heap.size]?=σ o/\(((w.alloc o).alloc b).alloc c).heap[w.heap.size+1]?=σ b/\(((w.alloc o).alloc b).alloc c).heap[w.heap.size+2]?=σ c:=
 ⟨(Hz w o b c).1,(ct _ _ _ (by simp;omega)).trans (fX w o b).2.2,(ct _ _ _ (by simp)).trans (fX w o b).2.1,(Hz w o b c).2⟩
theorem My{w:ω}{x:υ}{ok:List aD->Prop}{d e:List aD->dj}{f:aD->aD->dj}(j:dJ w p m ok d)(g:dJ w p k ok e)(l:wV w p x OT f)(I:p<=w.heap.size) :
 Calls prog 206 #[m,k,x] w λL v=>∃u,L=τ u/\dJ v p u ok (λrow=>vI f (d row) (e row))/\δ w.heap.size w v:=by have B:=j;have M:=g;have C:=l;obtain⟨r,i,rfl,-⟩:=j;obtain⟨s,y,rfl,-⟩:=g;obtain⟨t,n,rfl,-⟩:=l;have b:=Xd w (ξ #[.func (.func r) #[] i] 141) (ξ #[.func (.func s) #[] y] 141) (ξ #[.func (.func t) #[] n] 365);have D:Hid (dJ (((w.alloc (ξ #[.func (.func r) #[] i] 141)).alloc (ξ #[.func (.func s) #[] y] 141)).alloc (ξ #[.func (.func t) #[] n] 365)) p (.func (.func 225) #[] #[π (σ (Ad w.heap.size 0)),π (σ (Ad (w.heap.size+1) 0)),π (σ (Ad (w.heap.size+2) 0))]) ok (λrow=>vI f (d row) (e row))):=ak ⟨_,_,rfl,call225,λN c O T V U E z F G H=>aiS B M C (λ_ _ _ _ _ _ _ _=>trivial) (ft.back b.1 c) (c.block I b.2.1) (c.block (by omega) b.2.2.1) (c.block (by omega) b.2.2.2) E z F G H⟩;have A:=b.1;go_in;go_wp2_with fail;go_ret;exact⟨_,rfl,D.J,A⟩
