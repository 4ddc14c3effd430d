import Derived.Test.YtcoaphfimellcaaGreatDoorFAD
import Derived.OrdersHeld
set_option maxHeartbeats 0
set_option maxRecDepth 100000
namespace Go.Proofs.YtcoaphfimellcaaGreatDoor
open Go.RowKit
open _root_.Go.Proofs.Tryz
open Option renaming some→σ,none→ν
open Go.IntKind renaming i64→κ
open Go.Ending renaming returned→τ
open Go.Obj renaming cells→ξ
open Go renaming World→ω,Value→υ
open Go.RowKit renaming Below→δ
open Go.Value renaming int→ι,string→θ,pointer→π
variable{p l u b:Nat}{m k:υ}{x:Array Bool}{v:ω}{n:Nat->Bool}{i:ω->Prop}{t:TypeId}{r:Nat->Prop}{s:Nat->Nat}
def jB(P:Program)(o:Oper)(ρ:Operand->υ)(w:ω)(R:υ->ω->Prop):Prop:=
 match(execOp ρ o).run P w with
 |.ok (.value v) w'=>R v w'
 |.ok .skip w'=>R undef w'
 |.ok (.enter f args) w'=>Calls P f args w' λe w''=>∃v,e=τ v/\R v w''
 |.ok (.row r args) w'=>Rows P r args w' R
 |_=>False
section
variable {P:Program} {o:Oper} {ρ:Operand->υ} {ops:Array Oper} {a:Act} {w:ω} {K:Act->ω->Prop} {Q:Exit->Act->ω->Prop} {R:υ->ω->Prop} {md:Region.Mode}
theorem jB.wp(b:jB P o a.eval w R)(e:∀c d,R c d->K (a.put o.dst c) d):o.wp P a w K Q:=by
 unfold Oper.wp;unfold jB at b;generalize (execOp a.eval o).run P w=r at *;cases r with
 |ok i d=>
  cases i<;>simp only[Oper.upon]at b ⊢<;>first
   |exact e _ _ b
   |exact b.mono (λk j g=>by obtain⟨c,rfl,f⟩:=g;exact e _ _ f)
   |exact Rows.mono b (λc j f=>e _ _ f)
   |exact b.elim
 |halt l d=>exact b.elim
theorem fV{v:υ}{w':ω}(b:(execOp ρ o).run P w=.ok (.value v) w')(c:R v w'):jB P o ρ w R:=by unfold jB;rw[b];exact c
theorem fO{b:FuncId}{i:Operand}{j:Array Operand}{k:Array TypeId}{args e:Array υ}{S:Ending->ω->Prop}(d:o.op=.call { callee:=.value i,args:=j,argTypes:=k })(r:ρ i=.func (.func b) #[] e)(p:∀(args:Array υ) (w:ω),Sem.run P (callFunc b args) w=.ok (.enter b args) w)(n:#[]++j.map ρ++e=args)
 (m:Calls P b args w S) (l:∀c g,S c g->∃f,c=τ f/\R f g):jB P o ρ w R:=by have c:execOp ρ o=callFunc b args:=(by cases o;simp only at d;subst d;rw[<- n];simp only[execOp,resolve,r];rfl);unfold jB;rw[c,p];exact m.mono l
def iH(ops:Array Oper)(i:Nat):Option Tmp:=(ops[i]?).bind (·.dst)
def nH(ops:Array Oper)(a:Act)(val:Nat->υ)(d:Nat->Bool):Nat->Act
 |0=>a
 |n+1=>if d n then(nH ops a val d n).put (iH ops n) (val n)else nH ops a val d n
def U8(ops:Array Oper)(a:Act)(val:Nat->υ)(n:Nat)(x:Operand):υ:=match x with
 |.tmp t=>match(List.range n).find? (λj=>iH ops j==σ t)with
   |some j=>val j
   |none=>a.eval (.tmp t)
 |x=>a.eval x
def PO{α:Type}(f:Nat->α)(i:Nat)(v:α):Nat->α:=λj=>if j=i then v else f j
theorem mq{d:Type}(e:Nat->d)(b:Nat)(c:d):PO e b c b=c:=aF rfl
theorem dH{c:Type}(b:Nat->c)(e:c)(d:l≠p):PO b p e l=b l:=aE d
theorem yn{val val':Nat->υ}{c d':Nat->Bool}:∀{n:Nat},(∀b,b<n->val b=val' b/\c b=d' b)->nH ops a val c n=nH ops a val' d' n
 |0,_=>rfl
 |n+1,h=>by
   unfold nH;rw[yn (n:=n) (λb d=>h b (by omega)),(h n (by omega)).1,(h n (by omega)).2]
theorem E9(val:Nat->υ)(c:Nat->Bool):∀b,(nH ops a val c b).tmps.size=a.tmps.size
 |0=>rfl
 |b+1=>by
   unfold nH;split
   . have:=E9 val c b
     cases iH ops b<;>simpa[Act.put]using this
   . exact E9 val c b
theorem QZ{val:Nat->υ}{e:Nat->Bool}{b:Nat}(i:υ)(k:e b=false):∀{n:Nat},b<n->(∀c,c<n->c≠b->∀g,iH ops c=σ g->iH ops b≠σ g)->(nH ops a val e n).put (iH ops b) i=nH ops a (PO val b i) (PO e b true) n
 |0,h,_=>absurd h (by omega)
 |n+1,h,fy=>by
   by_cases f:b=n
   . subst f
     unfold nH;rw[k,mq,mq,aE (by simp),aF rfl,yn (val':=PO val b i) (d':=PO e b true) (λc j=>⟨(dH _ _ (Nat.ne_of_lt j)).symm,(dH _ _ (Nat.ne_of_lt j)).symm⟩)]
   . have m:=QZ (val:=val) (n:=n) i k (by omega) (λc j=>fy c (by omega))
     unfold nH;rw[dH _ _ (λd=>f d.symm),dH _ _ (λd=>f d.symm),<- m];split
     . exact Act.put_comm _ _ _ (λg l=>fy n (by omega) (λd=>f d.symm) g l)
     . rfl
theorem ZF{val:Nat->υ}{m:Operand}(l:∀b,b<p->∀c,iH ops b=σ c->c<a.tmps.size)(k:∀e b,e<p->b<p->e≠b->∀c,iH ops b=σ c->iH ops e≠σ c)(g:∀b,b<p->∀c,m=.tmp c->iH ops b=σ c->n b=true):(nH ops a val n p).eval m=U8 ops a val p m:=by
 cases m with
 |tmp c=>
  unfold U8;simp only;have y:∀p,(∀b,b<p->∀c,iH ops b=σ c->c<a.tmps.size)->(∀b,b<p->iH ops b=σ c->n b=true)->(∀e b,e<p->b<p->e≠b->∀c,iH ops b=σ c->iH ops e≠σ c)->(nH ops a val n p).eval (.tmp c)=match(List.range p).find? (λb=>iH ops b==σ c)with
   |some b=>val b
   |none=>a.eval (.tmp c):=by
   intro p
   induction p with
   |zero=>intro _ _ _;rfl
   |succ p j=>
     intro l g k;have j:=j (λb i=>l b (by omega)) (λb i=>g b (by omega)) (λe b B i=>k e b (by omega) (by omega));rw[tG,List.find?_append];unfold nH;by_cases f:iH ops p=σ c
     . have r:(List.range p).find? (λb=>iH ops b==σ c)=ν:=by
        rw[gW];intro b i;have:=dM.mp i;intro d;exact k p b (by omega) (by omega) (by omega) c (by simpa using d) f
       rw[g p (by omega) f,aF rfl,r,f];have x:=E9 (ops:=ops) (a:=a) val n p;have v:=l p (by omega) c f;simp[Act.put,Act.eval,f,x,v]
     . have s:(List.find? (λb=>iH ops b==σ c) [p])=ν:=by simp[f]
       rw[s,Option.or_none,<- j];split
       . exact yO (λC u d=>f (by cases d;exact u))
       . rfl
  exact y p l (λb i t=>g b i c rfl t) k
 |const D=>clear g;induction p with
   |zero=>rfl
   |succ p j=>unfold nH;split<;>first|(rw[yO (λ_ _ d=>by cases d)];rfl)|rfl
 |global A=>clear g;induction p with
   |zero=>rfl
   |succ p j=>unfold nH;split<;>first|(rw[yO (λ_ _ d=>by cases d)];rfl)|rfl
 |func z=>clear g;induction p with
   |zero=>rfl
   |succ p j=>unfold nH;split<;>first|(rw[yO (λ_ _ d=>by cases d)];rfl)|rfl
def Af(n m:Nat)(d:Nat->Bool):Array Bool:=Array.ofFn (n:=n+m) λi=>decide (i.val<n)&&d i.val
theorem qP{d:Nat->Bool}(b:u<p+l):(Af p l d)[u]?=σ (decide (u<p)&&d u):=by simp[Af,b]
theorem Xw(f:u<p):(Af p l n).setIfInBounds u true=Af p l (PO n u true):=by apply nK;intro d;by_cases c:d<p+l;{rw[tI,qP c,qP c];by_cases b:u=d;{subst b;simp[Af,mq,f];omega};rw[aE b,dH _ _ (λe=>b e.symm)]};rw[ew (by simp[Af];omega),ew (by simp[Af];omega)]
def hangs(md:Region.Mode)(ops:Array Oper):Nat->Nat->Nat->Bool
 |0,_,_=>false
 |k+1,i,j=>match ops[i]? with
   |some o=>o.after.any λe=>Region.binds md e&&(e.on==j||hangs md ops k e.on j)
   |none=>false
def ajZ(ops:Array Oper)(n:Nat)(o:Oper)(p:Nat->Prop):Prop:=∀j,j<n->(match iH ops j with|some t=>(o.looksAt ops).contains t|none=>false)=true->p j
def Js(p:Nat->Prop):Nat->Prop
 |0=>True
 |n+1=>Js p n/\p n
theorem Js.get:∀{c:Nat},Js r c->∀b,b<c->r b
 |0,_,_,h=>absurd h (by omega)
 |c+1,h,b,hi=>by
   rcases mC b c with d|d
   . exact h.1.get b d
   . obtain rfl:b=c:=by omega
     exact h.2
def aj0(md:Region.Mode)(ops:Array Oper)(n m:Nat)(d:Nat->Bool):Prop:=∀i o,i<n->d i=true->ops[i]?=σ o->∀e∈o.after,Region.binds md e=true->(Af n m d).getD e.on false=true
theorem adk(b:(Af p l n).getD u false=true):u<p/\n u=true:=by rcases mC u (p+l)with c|c;{have:=qP (d:=n) c;simp only[Array.getD_eq_getD_getElem?,this,Option.getD_some,Bool.and_eq_true,decide_eq_true_eq]at b;exact b};rw[ju,ew (by simp[Af];omega)]at b;cases b
theorem yo{i n:Nat}{f:Nat->Bool}(l:aj0 md ops i n f):∀(e g d:Nat) (o:Oper),ops[g]?=σ o->(∀c∈o.after,Region.binds md c=true->(Af i n f).getD c.on false=true)->hangs md ops e g d=true->d<i/\f d=true
 |0,_,_,_,_,_,b=>by simp[hangs]at b
 |e+1,g,d,o,ho,nt,b=>by
   unfold hangs at b;rw[ho]at b;obtain⟨v,r,b⟩:=Array.any_eq_true.mp b;have m:=Array.getElem_mem r;generalize o.after[v]=c at b m;simp only[Bool.and_eq_true,Bool.or_eq_true,beq_iff_eq]at b;obtain⟨t,b⟩:=b;have u:=nt c m t;obtain⟨j,k⟩:=adk u;rcases b with b|b
   . rw[<- b];exact⟨j,k⟩
   . cases ho':ops[c.on]? with
     |none=>unfold hangs at b;cases e<;>simp[ho']at b
     |some x=>exact yo l e c.on d x ho' (λs p y=>l _ _ j k ho' s p y) b
def ze(d:Nat->Bool):Nat->Nat
 |0=>0
 |n+1=>ze d n+if d n then 0 else 1
theorem Jt{c:Nat->Bool}{b:Nat}(e:c b=false):∀{n:Nat},b<n->ze c n=ze (PO c b true) n+1
 |0,h=>absurd h (by omega)
 |n+1,h=>by
   by_cases d:b=n
   . subst d
     have:∀n,n<=b->ze (PO c b true) n=ze c n:=λn=>by
      induction n with
      |zero=>intro _;rfl
      |succ n g=>intro i;unfold ze;rw[g (by omega),dH _ _ (by omega)]
     unfold ze;rw[this b (ae _),mq,e];rfl
   . unfold ze
     rw[Jt e (n:=n) (by omega),dH _ _ (λf=>d f.symm)];omega
theorem Mt{c:Nat->Bool}:∀{n:Nat},ze c n=0->∀b,b<n->c b=true
 |0,_,_,h=>absurd h (by omega)
 |n+1,h,b,hi=>by
   unfold ze at h;rcases mC b n with d|d
   . exact Mt (n:=n) (by omega) b d
   . obtain rfl:b=n:=by omega
     cases hd:c b with
     |true=>rfl
     |false=>rw[hd]at h;simp at h
theorem Q5:∀b,ze (λ_=>false) b=b
 |0=>rfl
 |b+1=>by unfold ze;rw[Q5 b];rfl
def wZ(s:Nat->Nat)(i:Nat)(f:Nat->Nat)(z:Nat):Nat:=if s i=i then z else f (s i)
def Fa(md:Region.Mode)(ops:Array Oper)(n m z e:Nat)(s:Nat->Nat):Bool:=
 decide (ops.size=n+m)&&Region.noSelect ops &&
 (List.range n).all (λi=>(match ops[i]? with
   |some o=>o.guard.isNone&&(o.after.all λe=>!Region.binds md e||decide (e.on<i))&&(List.range n).all λj=>match iH ops j with
     |some t=>!(o.looksAt ops).contains t||hangs md ops (n+m) i j
     |none=>true
   |none=>false)&&(match iH ops i with|some t=>decide (t<z)|none=>true)&&(List.range n).all λj=>decide (i=j)||(match iH ops j with|some t=>iH ops i != σ t|none=>true)) &&
 (List.range m).all (λk=>(List.range n).all λj=>decide (j=e)||hangs md ops (n+m) (n+k) j) &&
 (List.range n).all λi=>decide (s i=i)||hangs md ops (n+m) i (s i)
theorem ahJ(I:Nat->υ->Nat->Nat->ω->Prop)(hc:Fa md ops p l a.tmps.size u s=true)
 (hE:∀b H u O w z,I b H u O w->δ w.heap.size w z->I b H u O z)
 (hs:∀b,b<p->∀o,ops[b]?=σ o->∀(val:Nat->υ) (j d:Nat->Nat) (w:ω),δ v.heap.size v w->ajZ ops p o (λc=>I c (val c) (j c) (d c) w)->jB P o (U8 ops a val p) w λH z=>I b H (wZ s b j w.heap.size) (wZ s b d z.heap.size) z/\δ w.heap.size w z)
 (F:u<p->∀(val:Nat->υ) (j d:Nat->Nat) (w:ω),δ v.heap.size v w->(∀b,b<p->b≠u->I b (val b) (j b) (d b) w/\v.heap.size<=j b/\j b<=d b/\d b<=w.heap.size)->(∀b c,b<p->c<p->b≠c->b≠u->c≠u->s b=b->s c=c->d b<=j c\/d c<=j b)->(∀b,b<p->b≠u->s b≠b->j b=j (s b)/\d b=d (s b))->∀b,p<=b->b∈Region.ready md ops (Af p l λc=>decide (c≠u))->wpOp P ops Q b (wpAny P md ops Q l ((Af p l λc=>decide (c≠u)).setIfInBounds b true)) (nH ops a val (λc=>decide (c≠u)) p) w)
 (jM:∀(val:Nat->υ) (j d:Nat->Nat) (w:ω),δ v.heap.size v w->(∀b,b<p->I b (val b) (j b) (d b) w/\v.heap.size<=j b/\j b<=d b/\d b<=w.heap.size)->(∀b c,b<p->c<p->b≠c->s b=b->s c=c->d b<=j c\/d c<=j b)->(∀b,b<p->s b≠b->j b=j (s b)/\d b=d (s b))->wpAny P md ops Q l (Af p l λ_=>true) (nH ops a val (λ_=>true) p) w) :
 ∀(V:Nat) (val:Nat->υ) (j d:Nat->Nat) (i:Nat->Bool) (w:ω),ze i p=V->aj0 md ops p l i->δ v.heap.size v w->(∀b,b<p->i b=true->I b (val b) (j b) (d b) w/\v.heap.size<=j b/\j b<=d b/\d b<=w.heap.size)->(∀b c,b<p->c<p->b≠c->i b=true->i c=true->s b=b->s c=c->d b<=j c\/d c<=j b)->(∀b,b<p->i b=true->s b≠b->i (s b)=true/\j b=j (s b)/\d b=d (s b))->
   wpAny P md ops Q (l+V) (Af p l i) (nH ops a val i p) w:=by
 have By:=hc;unfold Fa at By;simp only[Bool.and_eq_true,decide_eq_true_eq,List.all_eq_true,List.mem_range,Bool.or_eq_true]at By;obtain⟨⟨⟨⟨oy,a3⟩,am⟩,a1⟩,a4⟩:=By;have hz:∀c,c<p->∀m,iH ops c=σ m->m<a.tmps.size:=λc g m t=>by have:=(am c g).1.2;rw[t]at this;simpa using this
 have fy:∀b c,b<p->c<p->b≠c->∀m,iH ops c=σ m->iH ops b≠σ m:=λb c d g Yw m t=>by
  have:=(am b d).2 c g;rw[t]at this;simpa[Yw]using this
 have Cv:∀b,b<p->∃o,ops[b]?=σ o/\o.guard=ν/\(∀f∈o.after,Region.binds md f=true->f.on<b)/\∀c,c<p->∀m,iH ops c=σ m->(o.looksAt ops).contains m=true->hangs md ops (p+l) b c=true:=λb d=>by
  have:=(am b d).1.1
  cases r:ops[b]? with
  |none=>rw[r]at this;cases this
  |some o=>
    rw[r]at this;simp only[Bool.and_eq_true,Option.isNone_iff_eq_none,List.all_eq_true,List.mem_range,Array.all_eq_true_iff_forall_mem,Bool.or_eq_true,decide_eq_true_eq]at this;refine⟨o,rfl,this.1.1,λf he C=>((this.1.2 f he).resolve_left (by simp[C])),λc g m t F=>?_⟩;have k:=this.2 c g;rw[t]at k;simp only[F]at k;simpa using k
 intro V;induction V with
 |zero=>intro val j d i w hk mP C N EC ac;have x:=Mt hk;have e1:Af p l i=Af p l λ_=>true:=(by apply nK;intro c;by_cases g:c<p+l;{rw[qP g,qP g];by_cases aa:c<p;{rw[x c aa]};simp[aa]};rw[ew (by simp[Af];omega),ew (by simp[Af];omega)]);rw[e1,yn (val':=val) (d':=λ_=>true) (λc g=>⟨rfl,x c g⟩)];exact jM val j d w C (λb KO=>N b KO (x b KO)) (λb c n k B=>EC b c n k B (x b n) (x c k)) (λb n k=>(ac b n (x b n) k).2)
 |succ V ih=>
  intro val j d i w hk mP C N EC ac;have tr:∀b,b∈Region.ready md ops (Af p l i)->b<p->i b=false:=λb d y=>by
   obtain⟨h0,o,r,W⟩:=mem_ready.1 d;have T:=(dq.mp r).1;rw[oy]at T;have:=qP (d:=i) T;simp only[Array.getD_eq_getD_getElem?,this,Option.getD_some,y,decide_true,Bool.true_and]at h0;exact h0
  refine⟨λh0=>?_,λb X=>?_⟩
  .exfalso;have bb:∃b,b<p/\i b=false:=by
    apply iA;intro Yu;have:∀e,e<=p->ze i e=0:=λe=>by
     induction e with
     |zero=>intro _;rfl
     |succ e ab=>
       intro G;unfold ze;rw[ab (by omega)]
       cases x:i e with
       |true=>rfl
       |false=>exact absurd ⟨e,by omega,x⟩ Yu
    have:=this p (ae _);omega
   have a0:∀e,(∀b,b<e->i b=true)\/∃b,b<e/\i b=false/\∀c,c<b->i c=true:=λe=>by
    induction e with
    |zero=>exact .inl (λb d=>absurd d (by omega))
    |succ e ab=>
      rcases ab with O|⟨b,n,k⟩
      . cases x:i e with
        |true=>exact .inl (λb d=>by
          rcases mC b e with f|f
          . exact O b f
          . obtain rfl:b=e:=by omega
            exact x)
        |false=>exact .inr ⟨e,by omega,x,O⟩
      . exact .inr ⟨b,by omega,k⟩
   rcases a0 p with O|⟨b,ar,bc,bd⟩;{obtain⟨b,n,k⟩:=bb;rw[O b n]at k;cases k}
   obtain⟨o,r,hg,mR,-⟩:=Cv b ar
   have wu:b∈Region.ready md ops (Af p l i):=mem_ready.2 ⟨by rw[ju,qP (by omega)];simp[ar,bc],o,r,λf he C=>by
    have T:=mR f he C;rw[ju,qP (by omega)];simp[bd _ T];omega⟩
   rw[h0]at wu;cases wu
  rcases mC b p with y|y;case inr=>
   obtain⟨-,o,r,W⟩:=mem_ready.1 X;have T:=(dq.mp r).1;rw[oy]at T;have L:∀c,c<p->c≠u->i c=true:=λc g Us=>by
    have:=(a1 (b - p) (by omega) c g).resolve_left Us;rw[show p+(b - p)=b from by omega]at this;exact(yo mP _ b c o r W this).2
   have lU:∀ad:Nat->Bool,(∀c,c<p->ad c=true)->ze ad p=0:=λad hf=>by
    have:∀e,e<=p->ze ad e=0:=λe=>by
     induction e with
     |zero=>intro _;rfl
     |succ e ab=>intro G;unfold ze;rw[ab (by omega),hf e (by omega)];rfl
    exact this p (ae _)
   have Bb:u<p:=(by rcases mC u p with f|f;{exact f};have:=lU i (λc g=>L c g (by omega));omega);have IZ:i u=false:=by
    cases x:i u with
    |false=>rfl
    |true=>
     have:=lU i (λc g=>by
      by_cases f:c=u
      . rw[f];exact x
      . exact L c g f)
     omega
   obtain rfl:V=0:=by
    have n:=Jt IZ Bb;have k:=lU (PO i u true) (λc g=>by
     by_cases f:c=u
     . rw[f];exact mq _ _ _
     . rw[dH _ _ f];exact L c g f)
    omega
   have aq:∀c,c<p->i c=decide (c≠u):=λc g=>by
    by_cases f:c=u
    . subst f;rw[IZ];simp
    . rw[L c g f];simp[f]
   have e1:Af p l i=Af p l λc=>decide (c≠u):=(by apply nK;intro c;by_cases g:c<p+l;{rw[qP g,qP g];by_cases aa:c<p;{rw[aq c aa]};simp[aa]};rw[ew (by simp[Af];omega),ew (by simp[Af];omega)]);rw[e1]at X ⊢;rw[yn (val':=val) (d':=λc=>decide (c≠u)) (λc g=>⟨rfl,aq c g⟩)];exact F Bb val j d w C (λe G xD=>N e G (L e G xD)) (λe q n k B Y h5=>EC e q n k B (L e n Y) (L q k h5)) (λe n k B=>(ac e n (L e n k) B).2) b y X
  have an:=tr b X y;obtain⟨-,o,r,W⟩:=mem_ready.1 X;obtain⟨o',ax,hg,-,a2⟩:=Cv b y;rw[r]at ax;cases ax;have a5:o.dst=iH ops b:=by simp[iH,r]
  have av:∀c,c<p->∀m,iH ops c=σ m->(o.looksAt ops).contains m=true->i c=true:=λc g m t F=>(yo mP _ b c o r W (a2 c g m t F)).2;have ba:execOp (nH ops a val i p).eval o=execOp (U8 ops a val p) o:=(by refine execOp_congr o (λcs a8=>Region.noSelect_spec a3 b o cs a8 r) λbg hx=>ZF hz fy λc g m be t=>av c g m t ?_;subst be;simp only[List.contains_iff_mem];exact eF _ (List.mem_filterMap.2 ⟨.tmp m,by simpa using hx,rfl⟩))
  have hM:=hs b y o r val j d w C (λc g F=>by
   cases t:iH ops c with
   |none=>rw[t]at F;cases F
   |some m=>rw[t]at F;exact(N c g (av c g m t F)).1)
  have yf:s b≠b->s b<p/\i (s b)=true:=λf=>yo mP _ b (s b) o r W ((a4 b y).resolve_left f);have a9:jB P o (nH ops a val i p).eval w λH z=>I b H (wZ s b j w.heap.size) (wZ s b d z.heap.size) z/\δ w.heap.size w z:=by unfold jB at hM ⊢;rw[ba];exact hM
  unfold wpOp;simp only[r];rw[aF (by simp[Region.wanted,hg])];refine .inl (a9.wp λH z ⟨he,lQ⟩=>?_);rw[a5,QZ H an y (λc g E m t=>fy b c y g (λf=>E f.symm) m t),Xw y];refine ih (PO val b H) (PO j b (wZ s b j w.heap.size)) (PO d b (wZ s b d z.heap.size)) (PO i b true) z (by have:=Jt an y;omega) ?_ (C.trans (lQ.mono C.size)) ?_ ?_ ?_;{intro c oj g Z ao f Hc U9;rw[<- Xw y];refine getD_set_true ?_;by_cases E:c=b;{subst E;rw[r]at ao;cases ao;exact W f Hc U9};rw[dH _ _ E]at Z;exact mP c oj g Z ao f Hc U9};{intro c g Z;by_cases E:c=b;{subst E;rw[mq,mq,mq];refine⟨he,?_⟩;unfold wZ;by_cases f:s c=c;{rw[aF f,aF f];exact⟨C.size,lQ.size,ae _⟩};rw[aE f,aE f];obtain⟨-,k,B,Y⟩:=N _ (yf f).1 (yf f).2;exact⟨k,B,ag Y lQ.size⟩};rw[dH _ _ E]at Z;rw[dH _ _ E,dH _ _ E,dH _ _ E];obtain⟨n,k,B,Y⟩:=N c g Z;exact⟨hE _ _ _ _ _ _ n lQ,k,B,ag Y lQ.size⟩};{intro e q G hq aC U al D ap;by_cases A:e=b;{subst A;have M:q≠e:=λf=>aC f.symm;rw[dH _ _ M]at al;rw[mq,mq,dH _ _ M,dH _ _ M,wZ,wZ,aF D,aF D];exact .inr (N q hq al).2.2.2};rw[dH _ _ A]at U;by_cases M:q=b;{subst M;rw[mq,mq,dH _ _ A,dH _ _ A,wZ,wZ,aF ap,aF ap];exact .inl (N e G U).2.2.2};rw[dH _ _ M]at al;rw[dH _ _ A,dH _ _ A,dH _ _ M,dH _ _ M];exact EC e q G hq aC U al D ap}
  intro e G U D;by_cases A:e=b;{subst A;rw[dH _ _ D,dH _ _ D,dH _ _ D,mq,mq,wZ,wZ,aE D,aE D];exact⟨(yf D).2,rfl,rfl⟩}
  rw[dH _ _ A]at U;obtain⟨n,k,B⟩:=ac e G U D;have Zy:s e≠b:=λf=>by rw[f,an]at n;cases n
  rw[dH _ _ Zy,dH _ _ Zy,dH _ _ Zy,dH _ _ A,dH _ _ A];exact⟨n,k,B⟩
structure GZ where
 p:υ->Nat->Nat->ω->Prop
 st:∀v l h w w',p v l h w->δ w.heap.size w w'->p v l h w'
def GZ.is(c:υ):GZ:=⟨λv _ _ _=>v=c,λ_ _ _ _ _ h _=>h⟩
def GZ.box(cs:Array υ)(t:TypeId):GZ:=⟨λv l h w=>h=l+1/\v=π (σ ⟨l,0,ν⟩)/\w.heap[l]?=σ (ξ cs t (0,0)),λ_ l _ _ _ h hb=>⟨h.1,h.2.1,(hb.block l (ay h.2.2)).trans h.2.2⟩⟩
def xb(L:List GZ)(i:Nat):GZ:=(L[i]?).getD (.is undef)
def Vb(ops:Array Oper)(a:Act)(L:List GZ)(n:Nat)(ρ:Operand->υ)(lo hi:Nat->Nat)(w:ω)(x:Operand):Prop:=match x with
 |.tmp t=>match(List.range n).find? (λj=>iH ops j==σ t)with
   |some j=>(xb L j).p (ρ x) (lo j) (hi j) w
   |none=>ρ x=a.tmps.getD t undef
 |x=>ρ x=a.eval x
def Hu(p:Operand->Prop):List Operand->Prop
 |[]=>True
 |x::l=>p x/\Hu p l
theorem F4{d:Operand->Prop}:∀{c:List Operand},(∀b∈c,d b)->Hu d c
 |[],_=>trivial
 |b::_,h=>⟨h b (dw ..),F4 λf e=>h f (cz _ e)⟩
def DX(P:Program)(ops:Array Oper)(a:Act)(W0:ω)(L:List GZ)(n i:Nat):Prop:=match ops[i]? with
 |some o=>∀(ρ:Operand->υ) (lo hi:Nat->Nat) (w:ω),δ W0.heap.size W0 w->Hu (Vb ops a L n ρ lo hi w) o.op.operands.toList->jB P o ρ w λv w'=>(xb L i).p v w.heap.size w'.heap.size w'/\δ w.heap.size w w'
 |none=>True
def uW(P:Program)(ops:Array Oper)(a:Act)(W0:ω)(L:List GZ)(s:Nat->Nat)(n i:Nat):Prop:=match ops[i]? with
 |some o=>∀(ρ:Operand->υ) (lo hi:Nat->Nat) (w:ω),δ W0.heap.size W0 w->Hu (Vb ops a L n ρ lo hi w) o.op.operands.toList->jB P o ρ w λv w'=>(xb L i).p v (wZ s i lo w.heap.size) (wZ s i hi w'.heap.size) w'/\δ w.heap.size w w'
 |none=>True
theorem uW.run{d:List GZ}(e:uW P ops a v d s p l)(t:ops[l]?=σ o)(val:Nat->υ)(g f:Nat->Nat)(m:δ v.heap.size v w)(n:ajZ ops p o (λb=>(xb d b).p (val b) (g b) (f b) w)):jB P o (U8 ops a val p) w λk i=>(xb d l).p k (wZ s l g w.heap.size) (wZ s l f i.heap.size) i/\δ w.heap.size w i:=by
 unfold uW at e;rw[t]at e;refine e (U8 ops a val p) g f w m (F4 λy x=>?_);cases y with
 |tmp c=>
  unfold Vb;simp only;have j:U8 ops a val p (.tmp c)=match(List.range p).find? (λb=>iH ops b==σ c)with
   |some b=>val b
   |none=>a.eval (.tmp c):=rfl
  cases hf:(List.range p).find? (λb=>iH ops b==σ c)with|none=>rw[j,hf];rfl|some b=>rw[j,hf];have r:=dM.mp (jV hf);have u:iH ops b=σ c:=(by have:=tJ hf;simpa using this);refine n b r ?_;rw[u];simp only[List.contains_iff_mem];exact eF _ (List.mem_filterMap.2 ⟨.tmp c,x,rfl⟩)
 |const k=>rfl
 |global A=>rfl
 |func z=>rfl
theorem Q6{W0:ω}(i:Nat->Nat)(j:List GZ)(D:a.tmps.size=u)(m:Fa md ops p l u b i=true)(C:Js (uW P ops a W0 j i p) p)
 (A:b<p->∀(val:Nat->υ) (g f:Nat->Nat) (w:ω),δ W0.heap.size W0 w->(∀c,c<p->c≠b->(xb j c).p (val c) (g c) (f c) w/\W0.heap.size<=g c/\g c<=f c/\f c<=w.heap.size)->(∀c d,c<p->d<p->c≠d->c≠b->d≠b->i c=c->i d=d->f c<=g d\/f d<=g c)->(∀c,c<p->c≠b->i c≠c->g c=g (i c)/\f c=f (i c))->∀c,p<=c->c∈Region.ready md ops (Af p l λd=>decide (d≠b))->wpOp P ops Q c (wpAny P md ops Q l ((Af p l λd=>decide (d≠b)).setIfInBounds c true)) (nH ops a val (λd=>decide (d≠b)) p) w)
 (F:∀(val:Nat->υ) (g f:Nat->Nat) (w:ω),δ W0.heap.size W0 w->(∀c,c<p->(xb j c).p (val c) (g c) (f c) w/\W0.heap.size<=g c/\g c<=f c/\f c<=w.heap.size)->(∀c d,c<p->d<p->c≠d->i c=c->i d=d->f c<=g d\/f d<=g c)->(∀c,c<p->i c≠c->g c=g (i c)/\f c=f (i c))->wpAny P md ops Q l (Af p l λ_=>true) (nH ops a val (λ_=>true) p) w) :
 wpAny P md ops Q ops.size (Array.replicate ops.size false) a W0:=by
 subst D;have G:ops.size=p+l:=(by have e:=m;unfold Fa at e;simp only[Bool.and_eq_true,decide_eq_true_eq]at e;exact e.1.1.1.1);have e:=ahJ (λc=>(xb j c).p) m (λc H b e w I v x=>(xb j c).st H b e w I v x) (λc f o B val g r w y z=>(C.get c f).run B val g r y z) A F p (λ_=>undef) (λ_=>0) (λ_=>0) (λ_=>false) W0 (Q5 p) (λ_ _ _ e=>by cases e) (ah _ _) (λ_ _ e=>by cases e) (λ_ _ _ _ _ e=>by cases e) (λ_ _ e=>by cases e);have s:Af p l (λ_=>false)=Array.replicate ops.size false:=(by rw[G];apply nK;intro d;by_cases n:d<p+l;{rw[qP n];simp[n]};rw[ew (by simp[Af];omega),ew (by simp;omega)]);have t:∀k,nH ops a (λ_=>undef) (λ_=>false) k=a:=λk=>by
  induction k with
  |zero=>rfl
  |succ k E=>unfold nH;rw[aE (by simp)];exact E
 rw[s,t]at e;rw[show ops.size=l+p from by omega]at e ⊢;exact e
theorem amw{i:Nat}{K:Act->ω->Prop}(f:ops[i]?=σ o)(e:o.guard=ν)(b:jB P o a.eval w λc d=>K (a.put o.dst c) d):wpOp P ops Q i K a w:=by unfold wpOp;simp only[f];rw[aF (by simp[Region.wanted,e])];exact .inl (b.wp λc d b=>b)
theorem Q7{id n m z l q:Nat}(f:Nat->Nat)(i:List GZ)(k:P.follows .mixedOrders=true)(_hln:l<n)(y:a.tmps.size=z)(t:Fa .any ops n m z l f=true)(v:(Region.ready .any ops (Af n m λc=>decide (c≠l))).all (λb=>decide (b<n)||decide (b=q))=true)(x:Js (uW P ops a w.drew i f n) n)
 (u:∀(val:Nat->υ) (e d:Nat->Nat) (g:ω),δ w.heap.size w g->(∀b,b<n->b≠l->(xb i b).p (val b) (e b) (d b) g/\w.heap.size<=e b/\e b<=d b/\d b<=g.heap.size)->(∀b c,b<n->c<n->b≠c->b≠l->c≠l->f b=b->f c=c->d b<=e c\/d c<=e b)->(∀b,b<n->b≠l->f b≠b->e b=e (f b)/\d b=d (f b))->wpOp P ops Q q (wpAny P .any ops Q m ((Af n m λc=>decide (c≠l)).setIfInBounds q true)) (nH ops a val (λc=>decide (c≠l)) n) g)
 (A:∀(val:Nat->υ) (e d:Nat->Nat) (g:ω),δ w.heap.size w g->(∀b,b<n->(xb i b).p (val b) (e b) (d b) g/\w.heap.size<=e b/\e b<=d b/\d b<=g.heap.size)->(∀b c,b<n->c<n->b≠c->f b=b->f c=c->d b<=e c\/d c<=e b)->(∀b,b<n->f b≠b->e b=e (f b)/\d b=d (f b))->wpAny P .any ops Q m (Af n m λ_=>true) (nH ops a val (λ_=>true) n) g) :
 (Code.region id ops true).wp P Q a w:=
 wp_region_any k (Q6 (W0:=w.drew) f i y t x (λ_ val e d g j p r s b B k=>by
  have:=eV.mp v b k;obtain rfl:b=q:=by simp at this;omega
  exact u val e d g ((aH (ah w.heap.size w)).trans j) p r s) λval e d g j=>A val e d g ((aH (ah w.heap.size w)).trans j))
def aj1(md:Region.Mode)(ops:Array Oper)(n m z:Nat):Bool:=Fa md ops n m z n λi=>i
theorem DX.two{b:List GZ}(c:DX P ops a v b p l):uW P ops a v b (λl=>l) p l:=by unfold DX at c;unfold uW;simp only[wZ,if_true];exact c
theorem Js.mono{q:Nat->Prop}(b:∀c,r c->q c):∀{d:Nat},Js r d->Js q d
 |0,_=>trivial
 |_+1,k=>⟨Js.mono b k.1,b _ k.2⟩
theorem Xx{n m z:Nat}{W0:ω}(f:List GZ)(t:a.tmps.size=z)(r:aj1 md ops n m z=true)(s:Js (DX P ops a W0 f n) n)
 (u:∀(val:Nat->υ) (d c:Nat->Nat) (w:ω),δ W0.heap.size W0 w->(∀b,b<n->(xb f b).p (val b) (d b) (c b) w/\W0.heap.size<=d b/\d b<=c b/\c b<=w.heap.size)->(∀b e,b<n->e<n->b≠e->c b<=d e\/c e<=d b)->wpAny P md ops Q m (Af n m λ_=>true) (nH ops a val (λ_=>true) n) w) :
 wpAny P md ops Q ops.size (Array.replicate ops.size false) a W0:=
 Q6 (λb=>b) f t r (s.mono λ_ g=>g.two) (λg=>absurd g (bM _)) (λval d c w k l p _=>u val d c w k l (λb e a i j=>p b e a i j rfl rfl))
theorem rX{id n m z:Nat}(g:List GZ)(k:P.follows .mixedOrders=true)(p:a.tmps.size=z)(j:aj1 .any ops n m z=true)(l:Js (DX P ops a w.drew g n) n)
 (r:∀(val:Nat->υ) (d c:Nat->Nat) (e:ω),δ w.heap.size w e->(∀b,b<n->(xb g b).p (val b) (d b) (c b) e/\w.heap.size<=d b/\d b<=c b/\c b<=e.heap.size)->(∀b f,b<n->f<n->b≠f->c b<=d f\/c f<=d b)->wpAny P .any ops Q m (Af n m λ_=>true) (nH ops a val (λ_=>true) n) e) :
 (Code.region id ops true).wp P Q a w:=
 wp_region_any k (Xx (W0:=w.drew) g p j l λval d c e i=>r val d c e ((aH (ah w.heap.size w)).trans i))
theorem nS{i:Nat}{o:Oper}(c:Region.ready md ops x=[i])(k:ops[i]?=σ o)(j:o.guard=ν)(b:jB P o a.eval w λe f=>wpAny P md ops Q p (x.setIfInBounds i true) (a.put o.dst e) f):wpAny P md ops Q (p+1) x a w:=by refine⟨λg=>(by rw[g]at c;cases c),λl d=>?_⟩;rw[c]at d;obtain rfl:=a6.mp d;unfold wpOp;simp only[k];rw[aF (by simp[Region.wanted,j])];exact .inl (b.wp λe f b=>b)
theorem qQ(c:Region.ready md ops x=[])(b:Q .normal a w):∀d,wpAny P md ops Q d x a w
 |0=>⟨c,b⟩
 |_+1=>⟨λ_=>b,by rw[c];simp⟩
theorem sR{id:Nat}{S:ω->Prop}(c:P.follows .mixedOrders=true)(b:wpAnyH P .any ops Q S ops.size (Array.replicate ops.size false) a w.drew):(Code.region id ops true).wp P Q a w:=wp_region_any c (wpAny_of_held _ _ _ _ b)
end
theorem lB{P:Program}{ops:Array Oper}{Q:Exit->Act->ω->Prop}{md:Region.Mode}{S:ω->Prop}{i:Nat}{o:Oper}{a:Act}{w:ω}(g:ops[i]?=σ o)(b:(Region.noSelect ops&&Region.free md ops x i&&(Region.ready md ops x).contains i&&o.guard.isNone)=true)(e:∀c a w,¬Q (.panic c) a w)(j:∀w,S w->(execOp a.eval o).run P w=.ok (.value m) w)(f:S w)(d:wpAnyH P md ops Q S p (x.setIfInBounds i true) (a.put o.dst m) w):wpAnyH P md ops Q S (p+1) x a w:=by simp only[Bool.and_eq_true,Option.isNone_iff_eq_none]at b;exact wpAnyH_take g b.1.1.1 b.1.1.2 b.1.2 (λc a w d=>absurd d (e c _ w)) (.inl ⟨by simp[Region.wanted,b.2],j⟩) f d
theorem rJ{P:Program}{ops:Array Oper}{Q:Exit->Act->ω->Prop}{md:Region.Mode}{S:ω->Prop}{i:Nat}{o:Oper}{a:Act}{w:ω}(c:Region.ready md ops x=[i])(k:ops[i]?=σ o)(j:o.guard=ν)(b:jB P o a.eval w λf d=>S d/\wpAnyH P md ops Q S p (x.setIfInBounds i true) (a.put o.dst f) d):wpAnyH P md ops Q S (p+1) x a w:=by refine⟨λg=>(by rw[g]at c;cases c),λl e=>?_⟩;rw[c]at e;obtain rfl:=a6.mp e;unfold wpOp;simp only[k];rw[aF (by simp[Region.wanted,j])];exact .inl (b.wp λf d b=>b)
theorem ZG(b c:aB)(w:ω):Calls prog 228 #[lg b,lg c] w λf j=>f=τ (ι κ (Qe b c))/\δ w.heap.size w j:=by
 obtain⟨g,k⟩:=nm ((w.alloc (si b.null b.n b.s)).alloc (si c.null c.n c.s));have e:=xI k;have r:g.heap[w.heap.size]?=σ (si b.null b.n b.s):=by rw[k];exact(cw _ _ _ (by simp)).trans (ak w _)
 have s:g.heap[w.heap.size+1]?=σ (si c.null c.n c.s):=by rw[k];have:=ak (w.alloc (si b.null b.n b.s)) (si c.null c.n c.s);simpa using this
 obtain⟨F,v,x⟩:=lx r;obtain⟨G,y,z⟩:=lx s;have t:=e;have B:=au k;unfold lg;have n:Hid (w.heap.size<g.heap.size/\w.heap.size+1<g.heap.size):=au ⟨ay r,ay s⟩;clear e k r s;go_in;go_wp2_with fail;rw[<- B.J];have A:prog.follows .mixedOrders=true:=by kernel_rfl
 have C:∀d,δ g.drew.heap.size g.drew d->(d.cell? (Ad w.heap.size 1)=σ (ι κ b.n)/\d.cell? (Ad w.heap.size 2)=σ (θ b.s))/\d.cell? (Ad (w.heap.size+1) 1)=σ (ι κ c.n)/\d.cell? (Ad (w.heap.size+1) 2)=σ (θ c.s):=λd e=>⟨⟨(e.cell (p:=(Ad _ 1)) n.J.1).trans v,(e.cell (p:=(Ad _ 2)) n.J.1).trans x⟩,(e.cell (p:=(Ad _ 1)) n.J.2).trans y,(e.cell (p:=(Ad _ 2)) n.J.2).trans z⟩;clear F v x G y z;refine rX (n:=12) (m:=1) (z:=17) [.is (π (σ (Ad w.heap.size 1))),.is (ι κ b.n),.is (π (σ (Ad (w.heap.size+1) 1))),.is (ι κ c.n),.is (ι κ (Qd b.n c.n)),.is (π (σ (Ad w.heap.size 2))),.is (θ b.s),.is (π (σ (Ad (w.heap.size+1) 2))),.is (θ c.s),.is (ι κ (FH b.s.toList c.s.toList)),⟨λH u _ d=>H=.slice (σ (Ad u 0)) 2 2/\d.heap[u]?=σ (ξ #[ι κ (Qd b.n c.n),ι κ (FH b.s.toList c.s.toList)] 3 (0,0)),λ_ _ _ _ _ i e=>⟨i.1,(e.block _ (ay i.2)).trans i.2⟩⟩,.is (ι κ (Qe b c))] A rfl (by kernel_rfl) ⟨⟨⟨⟨⟨⟨⟨⟨⟨⟨⟨⟨trivial,?_⟩,?_⟩,?_⟩,?_⟩,?s4⟩,?_⟩,?_⟩,?_⟩,?_⟩,?s9⟩,?s10⟩,?s11⟩ ?fin;(case s4=>refineλρ m l d e ⟨hf,(f:ρ (.tmp 6)=_),(p:ρ (.tmp 8)=_),_⟩=>fO rfl hf call242 (by simp[f,p]) (acm b.n c.n d) ?_;rintro f j ⟨rfl,rfl⟩;exact⟨_,rfl,rfl,ah _ _⟩);(case s9=>refineλρ m l d e ⟨hf,(f:ρ (.tmp 11)=_),(p:ρ (.tmp 13)=_),_⟩=>fO rfl hf call243 (by simp[f,p]) (acn b.s c.s d) ?_;rintro f j ⟨rfl,rfl⟩;exact⟨_,rfl,rfl,ah _ _⟩);(case s10=>refineλρ m l d e ⟨(f:ρ _=_),(p:ρ _=_),_⟩=>fV (v:=.slice (σ (Ad d.heap.size 0)) 2 2) (w':=d.alloc (ξ #[ι κ (Qd b.n c.n),ι κ (FH b.s.toList c.s.toList)] 3)) ?_ ⟨⟨rfl,ak d _⟩,(ah _ _).alloc (ae _) _⟩;go_simp);(case s11=>refineλρ m l d e ⟨hf,⟨(f:ρ (.tmp 15)=_),i⟩,_⟩=>fO rfl hf call241 (by simp[f]) (alp _ _ _ 2 d (aS i).1 (aS i).2) ?_;rintro f j ⟨rfl,D⟩;exact⟨_,rfl,rfl,D⟩);(case fin=>intro val m l j e E _;have I:val 11=_:=(E 11 (by decide)).1;simp[nH,iH,Act.put];refine nS (i:=12) (by kernel_rfl) rfl rfl (fV (w':=j) (v:=ι κ (Qe b c)) (by go_simp) (qQ (by kernel_rfl) ?_ _));simp[Act.put];go_wp2_with fail;go_ret;exact⟨rfl,t.trans (e.mono t.size)⟩);all_goals refineλρ m l d e ⟨(f:ρ _=_),_⟩=>fV (w':=d) ?_ ⟨rfl,ah _ _⟩;obtain⟨⟨L,M⟩,N,O⟩:=C d e;go_simp
theorem adl(w:ω)(c d:aB){q:Nat}(f:w.heap[q]?=σ (ξ #[m] t (0,0))):∃b,b=((w.alloc (oh c)).alloc (oh d)).alloc qO/\δ w.heap.size w b/\b.heap[w.heap.size+2]?=σ qO/\
 (b.cell? ⟨w.heap.size,0,ν⟩=σ (.bool c.null)/\b.cell? ⟨w.heap.size,1,ν⟩=σ (ι κ c.n)/\b.cell? ⟨w.heap.size,2,ν⟩=σ (θ c.s))/\(b.cell? ⟨w.heap.size+1,0,ν⟩=σ (.bool d.null)/\b.cell? ⟨w.heap.size+1,1,ν⟩=σ (ι κ d.n)/\b.cell? ⟨w.heap.size+1,2,ν⟩=σ (θ d.s))/\(b.cell? ⟨q,0,ν⟩=σ m/\q<b.heap.size)/\(w.heap.size<b.heap.size/\w.heap.size+1<b.heap.size):=by have e:=Jr w (oh c) (oh d) qO;have g:=gT w (oh c) (oh d);have i:=(cw ((w.alloc (oh c)).alloc (oh d)) qO w.heap.size (by simp;omega)).trans g.2.2;have j:=(cw ((w.alloc (oh c)).alloc (oh d)) qO (w.heap.size+1) (by simp)).trans g.2.1;exact⟨_,rfl,e.1,e.2,lx i,lx j,⟨cell0 ((e.1.block q (ay f)).trans f) 0,ai (ay f) e.1.size⟩,ay i,ay j⟩
theorem amy(o:Nat)(x:5<=o)(v:o<=10)(c d:aB){q:Nat}{w:ω}(k:w.heap[q]?=σ (ξ #[ι κ o] t (0,0))):Calls prog 226 #[lg c,lg d,π (σ ⟨q,0,ν⟩)] w λg E=>g=τ (zI (.inl (kE (CL o (Qe c d)))))/\δ w.heap.size w E:=by
 obtain⟨f,A,B,C,⟨Y,Z,l2⟩,⟨r0,r1,r2⟩,⟨N,T⟩,X⟩:=adl w c d k;have s:=au (λb=>ZG c d b);have H:=au (λb=>ZA o x v (Qe c d) b);have u:=au (λb=>ur (CL o (Qe c d)) b);have L:=au (λb (j:δ _ _ b)=>ZB C B j (by omega));have M:=au A;have F:=au (λb (j:δ f.heap.size f b)=>(j.cell (p:=⟨q,0,ν⟩) T).trans N);obtain⟨aa,ab,ac,W,pl,O,z⟩:=j9 (.inl (kE (CL o (Qe c d))));rw[z]at u ⊢;have V:=ay k;clear k x v A B C O z;unfold lg at s ⊢;go_in;go_wp2_with fail;rw[<- M.J];go_region_with(first
  | (go_at_call 228;refine(s.J _).mono ?_;rintro g b ⟨rfl,e⟩;have i:=(aH (ah f.heap.size f)).trans e;have c1:=F.J b i;have D:=au i;clear e i)
  | (go_at_call 227;refine(H.J _).mono ?_;rintro g E ⟨rfl,rfl⟩)
  | (go_at_call 157;refine(u.J _).mono ?_;rintro g U ⟨rfl,e⟩;obtain⟨⟨l,m,n,p,r⟩,⟨z0,z1,z2,z3,z4⟩,y⟩:=L.J U (D.J.trans (e.mono D.J.size));have G:=au y;have I:=au (And.intro l (And.intro m (And.intro n (And.intro p r))));clear e y))
 all_goals (try go_wp2_with fail);(try simp only[Exit.inBlock,Exit.then]);obtain⟨l,m,n,p,r⟩:=I.J;refine aD (by simp[results,results226,go_sem,l,m,n,p,r];rfl) rfl ?_;exact⟨rfl,G.J _ _ _ _ _⟩
theorem ahO{a w:ω}{i q p y:Nat}{ac t':TypeId}{F:υ}(hw:Ms a i F y)(Y:gq i a.heap.size a w)(n:w.heap[q]?=σ (ξ #[F] ac (0,0)))(o:Nat)(O:o<=4)(e f:aB)(z:w.heap[p]?=σ (ξ #[ι κ o] t' (0,0))):Calls prog 229 #[lg e,lg f,π (σ (Ad q 0)),π (σ (Ad p 0))] w λd l=>d=τ (zI (CK y (uU o e.n f.n)))/\δ w.heap.size w l:=by
 obtain⟨x,s,rfl,D,U⟩:=hw;obtain⟨m,X,b,hz,⟨l0,l1,l2⟩,⟨r0,r1,r2⟩,⟨L,aa⟩,E⟩:=adl w e f z;have H:=au (λg (k:δ _ _ g)=>ZB hz b k (by omega));have B:=au (λg (k:δ _ _ g)=>show g.cell? (Ad q 0)=σ (.func (.func x) #[] s)from cell0 ((k.block q (ai (ay n) b.size)).trans ((b.block q (ay n)).trans n)) 0);have GI:=B.J _ (ah _ _);have KM:=ay n;have an:=ay z;have r:=amo o O e.n f.n;obtain⟨j,Z⟩:=nm (uU o e.n f.n);rw[<- Z]at r ⊢;have A:=au (λg (k:δ _ _ g)=>U g ((Y.below b).below k) j);have I:=au X;obtain⟨ad,al,am,N,ab,hL,W⟩:=j9 (CK y j);rw[W]at A ⊢;unfold CJ at r;unfold Enters at D;unfold lg;go_in;go_wp2_with fail;rw[<- I.J];have C:∀c,δ m.drew.heap.size m.drew c->c.cell? (Ad q 0)=σ (.func (.func x) #[] s)/\c.cell? (Ad p 0)=σ (ι κ o)/\c.cell? (Ad w.heap.size 1)=σ (ι κ e.n)/\c.cell? (Ad (w.heap.size+1) 1)=σ (ι κ f.n)/\δ m.heap.size m c:=λc b=>⟨B.J c ((aH (ah _ _)).trans b),(b.cell (p:=(Ad p 0)) aa).trans L,(b.cell (p:=(Ad _ 1)) E.1).trans l1,(b.cell (p:=(Ad _ 1)) E.2).trans r1,(aH (ah _ _)).trans b⟩;have G:prog.follows .mixedOrders=true:=by kernel_rfl
 refine rX (n:=10) (m:=1) (z:=17) [.is (.func (.func x) #[] s),.is (ι κ o),.is (π (σ (Ad w.heap.size 1))),.is (ι κ e.n),.is (π (σ (Ad (w.heap.size+1) 1))),.is (ι κ f.n),.is (.tuple #[ι κ j.1,.bool j.2]),.is (ι κ j.1),.is (.bool j.2),.is (.agg #[.bool ad,ι κ al,θ am,ι κ N,ι κ ab])] G rfl (by kernel_rfl) ⟨⟨⟨⟨⟨⟨⟨⟨⟨⟨trivial,?_⟩,?_⟩,?_⟩,?_⟩,?_⟩,?_⟩,?s6⟩,?_⟩,?_⟩,?s9⟩ ?fin;(case s6=>refineλρ i v c b ⟨u,(d:ρ (.tmp 8)=_),(t:ρ (.tmp 10)=_),(M:ρ (.tmp 12)=_),_⟩=>fO rfl u call230 (by simp[d,t,M]) (r c) ?_;rintro d l ⟨rfl,b⟩;exact⟨_,rfl,rfl,b⟩);(case s9=>refineλρ i v c b ⟨(u:ρ (.tmp 7)=_),(d:ρ (.tmp 14)=_),(t:ρ (.tmp 15)=_),_⟩=>fO rfl u D (by simp[d,t]) (A.J c (C c b).2.2.2.2) ?_;rintro d l ⟨rfl,b⟩;exact⟨_,rfl,rfl,b⟩);(case fin=>intro val i v l b hv _;have T:val 9=_:=(hv 9 (by decide)).1;obtain⟨⟨q0,q1,q2,q3,q4⟩,⟨z0,z1,z2,z3,z4⟩,V⟩:=H.J l b;simp[nH,iH,Act.put,T];refine nS (i:=10) (by kernel_rfl) rfl rfl ?_;unfold jB;go_simp;refine qQ (by kernel_rfl) ?_ _;(try simp[Act.put]);go_wp2_with fail;refine aD (by simp[results,results229,go_sem,q0,q1,q2,q3,q4];rfl) rfl ?_;exact⟨rfl,V _ _ _ _ _⟩);all_goals refineλρ i v c b ⟨(d:ρ _=_),_⟩=>fV (w':=c) ?_ ⟨rfl,ah _ _⟩;obtain⟨x1,x2,x3,x4,-⟩:=C c b;go_simp
theorem dX.keep{a:ω}{ok:List aB->Prop}{b:List aB->dm}(e:dX a p m ok b)(j:δ a.heap.size a v):dX v p m ok b:=by obtain⟨l,d,k,g,f⟩:=e;exact⟨l,d,k,g,λc i=>f c (gq.back j i)⟩
theorem wO.keep{a:ω}{ok:aB->Prop}{b:aB->dm}(e:wO a p m ok b)(j:δ a.heap.size a v):wO v p m ok b:=by obtain⟨l,d,k,g,f⟩:=e;exact⟨l,d,k,g,λc i=>f c (gq.back j i)⟩
theorem xU.keep{a:ω}{ok:aB->aB->Prop}{b:aB->aB->dm}(e:xU a p m ok b)(j:δ a.heap.size a v):xU v p m ok b:=by obtain⟨l,d,k,g,f⟩:=e;exact⟨l,d,k,g,λc i=>f c (gq.back j i)⟩
abbrev Q8:aB->Prop:=λ_=>True
abbrev Q9:aB->aB->Prop:=λ_ _=>True
theorem Ju{w:ω}{b:aB->dm}(f:wO w p m Q8 b)(s:p<=w.heap.size) :
 Calls prog 178 #[m] w λt i=>∃j,t=τ j/\wO i p j Q8 (Xu b)/\δ w.heap.size w i:=by have k:=f;obtain⟨g,c,rfl,-⟩:=f;have d:δ w.heap.size w (w.alloc (ξ #[.func (.func g) #[] c] 322)):=(ah _ _).alloc (ae _) _;have l:Hid (wO (w.alloc (ξ #[.func (.func g) #[] c] 322)) p (.func (.func 200) #[] #[π (σ (Ad w.heap.size 0))]) Q8 (Xu b)):=au ⟨_,_,rfl,call200,λu e n r=>aqo k (gq.back d e) (e.block s (ak w _)) n r⟩;go_in;go_wp2_with fail;go_ret;exact⟨_,rfl,l.J,d⟩
theorem DZ{w:ω}{ok:List aB->Prop}{c:List aB->dm}{d:aB->dm}(g:dX w p m ok c)(i:wO w p k Q8 d)(D:p<=w.heap.size) :
 Calls prog 176 #[m,k] w λE s=>∃r,E=τ r/\dX s p r ok (λrow=>rG d (c row))/\δ w.heap.size w s:=by have v:=g;have x:=i;obtain⟨l,f,rfl,-⟩:=g;obtain⟨n,j,rfl,-⟩:=i;have b:=gT w (ξ #[.func (.func l) #[] f] 141) (ξ #[.func (.func n) #[] j] 322);have y:Hid (dX ((w.alloc (ξ #[.func (.func l) #[] f] 141)).alloc (ξ #[.func (.func n) #[] j] 322)) p (.func (.func 199) #[] #[π (σ (Ad w.heap.size 0)),π (σ (Ad (w.heap.size+1) 0))]) ok (λrow=>rG d (c row))):=au ⟨_,_,rfl,call199,λF e G H L I z t A B C=>alC v x (λ_ _ _ _=>trivial) (gq.back b.1 e) (e.block D b.2.2) (e.block (by omega) b.2.1) z t A B C⟩;have u:=b.1;go_in;go_wp2_with fail;go_ret;exact⟨_,rfl,y.J,u⟩
theorem ZH(w:ω)(o b c:Obj):δ w.heap.size w (((w.alloc o).alloc b).alloc c)/\(((w.alloc o).alloc b).alloc c).heap[w.heap.size]?=σ o/\(((w.alloc o).alloc b).alloc c).heap[w.heap.size+1]?=σ b/\(((w.alloc o).alloc b).alloc c).heap[w.heap.size+2]?=σ c:=
 ⟨(Jr w o b c).1,(cw _ _ _ (by simp;omega)).trans (gT w o b).2.2,(cw _ _ _ (by simp)).trans (gT w o b).2.1,(Jr w o b c).2⟩
theorem OA{w:ω}{x:υ}{ok:List aB->Prop}{d e:List aB->dm}{f:aB->aB->dm}(j:dX w p m ok d)(g:dX w p k ok e)(l:xU w p x Q9 f)(I:p<=w.heap.size) :
 Calls prog 206 #[m,k,x] w λL v=>∃u,L=τ u/\dX v p u ok (λrow=>uI f (d row) (e row))/\δ w.heap.size w v:=by have B:=j;have M:=g;have C:=l;obtain⟨r,i,rfl,-⟩:=j;obtain⟨s,y,rfl,-⟩:=g;obtain⟨t,n,rfl,-⟩:=l;have b:=ZH w (ξ #[.func (.func r) #[] i] 141) (ξ #[.func (.func s) #[] y] 141) (ξ #[.func (.func t) #[] n] 365);have D:Hid (dX (((w.alloc (ξ #[.func (.func r) #[] i] 141)).alloc (ξ #[.func (.func s) #[] y] 141)).alloc (ξ #[.func (.func t) #[] n] 365)) p (.func (.func 225) #[] #[π (σ (Ad w.heap.size 0)),π (σ (Ad (w.heap.size+1) 0)),π (σ (Ad (w.heap.size+2) 0))]) ok (λrow=>uI f (d row) (e row))):=au ⟨_,_,rfl,call225,λN c O T V U E z F G H=>alE B M C (λ_ _ _ _ _ _ _ _=>trivial) (gq.back b.1 c) (c.block I b.2.1) (c.block (by omega) b.2.2.1) (c.block (by omega) b.2.2.2) E z F G H⟩;have A:=b.1;go_in;go_wp2_with fail;go_ret;exact⟨_,rfl,D.J,A⟩
