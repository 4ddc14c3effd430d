import Derived.Test.YtcoaphfimellcaaGreatDoorQAX
import Derived.Test.YtcoaphfimellcaaGreatDoorQAE
set_option maxHeartbeats 0
set_option maxRecDepth 100000
namespace Go.Proofs.YtcoaphfimellcaaGreatDoor
open Go.RowKit
open _root_.Go.Proofs.Tryz
open Option renaming some→σ,none→ν
open Go.IntKind renaming i64→κ
open Go.Ending renaming returned→τ
open Go.Obj renaming cells→ξ
open Go renaming World→ω,Value→υ
open Go.RowKit renaming Below→δ
open Go.Value renaming int→ι,string→θ,slice→ψ,pointer→π,agg→χ
variable{p t u:Nat}{m s:υ}{x:List υ}{l:List ByteArray}{i:ω}{r:ByteArray}
namespace S
theorem Ot(i c:Int)(a:List Cl)(bs:List Nat)(w:ω)(j:Lays bs (ph i c a))(p:a.length<=64)(d:vj i c a=true)(g:∀b∈a,cK b.n) :
 Calls prog 154 #[θ (strOf bs)] w λl w'=>(∃v,l=τ (.tuple #[ι κ c,v,ι κ 0])/\w'.ownsRow w.heap.size 229 3 v a.length (bI a))/\δ w.heap.size w w':=by
 unfold vj at d;simp only[Bool.and_eq_true,decide_eq_true_eq]at d;obtain⟨s,m,t,u,A⟩:=RX j d.1.1 d.1.2 d.2.1.1 d.2.1.2 p g d.2.2;have C:(strOf bs).size<=140737488351232:=(by rw[RT,j.len];have o:(ph i c a).length<=24+20000:=(by have f:∀b∈a,yM b:=λb e=>D0 (yN (g b e) (ez.1 d.2.2 b e));unfold ph body;simp only[List.length_append,bM];have D:=G6 c a f;have G:=rM c a f;have H:=rM c (oM a) (λb e=>f b (Hc e));have I:=CA a;have K:=vf (oM a) a;have x:=UG (oM a).length (by omega);have N:a.length*pw (oM a).length<=64*8:=lj p x;have k:=zQ g;have y:=mS (Gc k);have O:=yQ (a.any λb=>b.null) c (leastOf (dE a)) (bitLen (nE (dE a))) a y (λb e=>(f b e).2);have E:=mS (yJ (tI k));split;{omega};split;{unfold xc;simp only[List.length_append,bM];omega};split;{unfold xd;simp only[List.length_append,List.length_cons,List.length_nil];have F:(if c=1 then([]:List Bool)else pA (leastOf (dE a))++bitsOf (bitLen (nE (dE a))) 7).length<=100:=(by split;{simp};rw[az,uZ,bM];omega);omega};omega);omega);refine(RY (strOf bs) w C).mono ?_;rintro l P ⟨o,z⟩;refine⟨?_,z⟩;rcases o with⟨_,v,rfl,r⟩|⟨B,_⟩
 {rw[s,m,t,u]at r;exact⟨v,by rw[m],r⟩};exact absurd A B
end S
def xh(c:aD):S.Cl:=⟨c.null,c.n,c.s⟩
theorem aav(a:List aD):S.bI (a.map xh)=bI a:=by
 induction a with
 |nil=>rfl
 |cons b a d=>
   have c:S.bI ((b::a).map xh)=[.bool b.null,ι κ b.n,θ b.s]++S.bI (a.map xh):=rfl;rw[c,d];rfl
def Mi(k:Nat)(c:aD):Prop:=S.cK c.n/\S.okB k (xh c)=true
def WB(k:Nat)(l:List aD):Prop:=∀c∈l,Mi k c
def Txt(k:Nat)(col:List aD)(s:ByteArray):Prop:=k<=2/\col.length<=64/\WB k col/\∃(bs:List Nat) (p:Int),0<=p/\p<=3/\S.Lays bs (S.ph p k (col.map xh))/\s=S.strOf bs
theorem UK{a:List aD}(c:WB p a):(a.map xh).all (S.okB p)=true:=by rw[ez];intro f d;obtain⟨b,e,rfl⟩:=cE.mp d;exact(c b e).2
theorem aaw{b:List aD}(d:WB p b):∀a∈b.map xh,S.cK a.n:=by intro a e;obtain⟨c,f,rfl⟩:=cE.mp e;exact(d c f).1
theorem RZ{a:List aD}(f:Txt p a r)(w:ω):Calls prog 154 #[θ r] w λb w'=>∃v,b=τ (.tuple #[ι κ p,v,ι κ 0])/\w'.ownsRow w.heap.size 229 3 v a.length (bI a)/\δ w.heap.size w w':=by obtain⟨m,i,c,bs,j,k,l,e,rfl⟩:=f;refine(S.Ot j p (a.map xh) bs w e (by simpa using i) (by unfold S.vj;rw[UK c];simp;omega) (aaw c)).mono ?_;rintro b w' ⟨⟨v,rfl,d⟩,g⟩;rw[aav,aQ]at d;exact⟨v,rfl,d,g⟩
theorem Ho{a:aD}(b:Mi p a):a.s.size<=12:=(S.D0 (S.yN (c:=xh a) b.1 b.2)).2
theorem aax{f:Int}{a:List aD}{v:υ}{w:ω}(x:0<=f)(y:f<=3)(Q:p<=2)(z:a.length<=64)(m:WB p a)(l:mW w v a):Calls prog 184 #[ι κ f,ι κ p,v] w λb w'=>∃j,b=τ (.tuple #[θ j,ι κ 0])/\Txt p a j/\δ w.heap.size w w':=by
 have T:∀d∈a.map xh,d.s.size<=140737488351232:=λd l=>by
  obtain⟨t,g,rfl⟩:=cE.mp l;have:=Ho (m t g);exact ag this (by decide)
 have D:∀(c:Option Addr) (k r e:Nat),v=ψ c a.length e->(0<(a.map xh).length->c=σ ⟨k,r,ν⟩)->S.mT w k r (a.map xh)->a.length<=e->Calls prog 184 #[ι κ f,ι κ p,v] w λb w'=>∃j,b=τ (.tuple #[θ j,ι κ 0])/\Txt p a j/\δ w.heap.size w w':=(by rintro c k r e rfl O N G;have:=S.KG f p (a.map xh) c k r e w O N (by simpa using G) (by simpa using z) (aaw m) T x y (by omega) (by omega) (UK m);rw[aQ]at this;refine this.mono ?_;rintro b w' ⟨⟨bs,F,rfl⟩,P⟩;exact⟨_,rfl,⟨Q,z,m,bs,f,x,y,F,rfl⟩,P⟩);rcases l.2 with⟨B,c,d,o⟩|⟨u,E,e,o,R,-,V⟩;{have b:a=[]:=gP B;refine D c 0 0 d (by rw[o,B]) (λs=>by simp[b]at s) (λC d s=>by simp[b]at s) (by omega)}
 refine D (σ ⟨u,E,ν⟩) u E e o (λ_=>rfl) (λC d i=>?_) R
 rw[aV]at i
 cases g:a[C]? with
 |none=>rw[g]at i;cases i
 |some t=>
   rw[g]at i
   cases i
   obtain⟨U,W,X,A,H,I,K⟩:=mW.get l g;rw[o]at A
   cases A
   exact⟨H,I,K⟩
abbrev sL:Value:=.slice none 0 0
structure qL (w:ω)(base:Nat)(vs:List υ)(L:List (List aD)):Prop where
 len:vs.length=L.length
 own:∀(i:Nat) (u:υ) (c:List aD),vs[i]?=σ u->L[i]?=σ c->w.ownsRow base 229 3 u c.length (bI c)
 apart:∀(i j:Nat) (u u':υ) (g:Nat),i≠j->vs[i]?=σ u->vs[j]?=σ u'->u.ownBlock=σ g->u'.ownBlock≠σ g
section
variable {w w':ω} {base:Nat} {vs:List υ} {L:List (List aD)}
theorem qL.at(e:qL w base vs L){a:Nat}{d:υ}(f:vs[a]?=σ d):∃b,L[a]?=σ b/\w.ownsRow base 229 3 d b.length (bI b):=by have c:=(aj.mp f).1;rw[e.len]at c;exact⟨L[a],af c,e.own a d _ f (af c)⟩
theorem qL.lt(a:qL w base vs L){g:Nat}(c:vs[p]?=σ m)(b:m.ownBlock=σ g):base<=g/\g<w.heap.size:=by obtain⟨e,-,d⟩:=a.at c;exact d.lt g b
theorem qL.below(a:qL w base vs L)(e:δ w.heap.size w w'):qL w' base vs L:=⟨a.len,λf g b c d=>cq (a.own f g b c d) e,a.apart⟩
theorem qL.kept(d:qL w base vs L){row:Option Nat}(j:w.grownBy w' row)(g:∀(b:Nat) (a:υ) (c:Nat),row=σ c->vs[b]?=σ a->a.ownBlock≠σ c):qL w' base vs L:=
 ⟨d.len,λb a f e i=>dH (d.own b a f e i) j (λc k=>g b a c k e),d.apart⟩
theorem qL.set(o:qL w base vs L){i:List aD}(u:w'.ownsRow base 229 3 m i.length (bI i))(t:∀(c:Nat) (d:υ) (y:List aD),c≠p->vs[c]?=σ d->L[c]?=σ y->w'.ownsRow base 229 3 d y.length (bI y))(r:∀(c:Nat) (d:υ) (g:Nat),c≠p->vs[c]?=σ d->m.ownBlock=σ g->d.ownBlock≠σ g):qL w' base (vs.set p m) (L.set p i):=by refine⟨by simp[o.len],λc d y b a=>?_,λc l d y g k b a j=>?_⟩;{rw[bH]at b a;by_cases e:p=c;{subst e;rw[aF rfl]at b a;split at b;{split at a;{cases b;cases a;exact u};cases a};cases b};rw[aE e]at b a;exact t c d y (λf=>e f.symm) b a};rw[bH]at b a;by_cases e:p=c;{subst e;rw[aF rfl]at b;rw[aE k]at a;split at b;{cases b;exact r l y g (λf=>k f.symm) a j};cases b};rw[aE e]at b;by_cases s:p=l;{subst s;rw[aF rfl]at a;split at a;{cases a;intro f;exact r c d g (λf=>e f.symm) b f j};cases a};rw[aE s]at a;exact o.apart c l d y g k b a j
theorem qL.cells(c:qL w base vs L){a:List aD}(d:L[p]?=σ a):∃e,vs[p]?=σ e/\mW w e a:=by have b:=(aj.mp d).1;rw[<- c.len]at b;exact⟨vs[p],af b,bu.eY (c.own p _ a (af b) d)⟩
theorem R5(w:ω)(base n:Nat):qL w base (List.replicate n sL) (List.replicate n []):=by refine⟨by simp,λd e f a b=>?_,λd i e j g _ a b c=>?_⟩;{rw[df]at a b;split at a;{rw[aF (by assumption)]at b;cases a;cases b;exact gR _ _ _ _};cases a};rw[df]at a;split at a;{cases a;cases c};cases a
end
structure gu (w:ω)(base:Nat)(v:υ)(vs:List υ)(L:List (List aD)):Prop where
 row:w.ownsRow base 230 1 v L.length vs
 each:qL w base vs L
 off:∀(i:Nat) (u:υ) (g:Nat),vs[i]?=σ u->u.ownBlock=σ g->v.ownBlock≠σ g
theorem gu.batch{w:ω}{base:Nat}{v:υ}{vs:List υ}{L:List (List aD)}(a:gu w base v vs L):eC w v L:=⟨vs,bu.eY a.row,λ_ _ b=>a.each.cells b⟩
def D5(w:ω)(v:υ)(ss:List ByteArray):Prop:=bu w 1 v ss.length (ss.map .string)
theorem D5.get{w:ω}{v:υ}(e:D5 w v l)(d:l[p]?=σ r):∃a b c,v=ψ (σ ⟨a,b,ν⟩) l.length c/\w.cell? ⟨a,b+p,ν⟩=σ (θ r):=by obtain⟨a,b,c,f,-,-,g⟩:=bu.at e (du (aK _) (aj.mp d).1);exact⟨a,b,c,f,g p _ (by rw[aV,d];rfl)⟩
def WC(ks:List Nat)(L:List (List aD))(ss:List ByteArray):Prop:=ks.length=ss.length/\L.length=ss.length/\∀(i:Nat) (k:Nat) (c:List aD) (s:ByteArray),ks[i]?=σ k->L[i]?=σ c->ss[i]?=σ s->Txt k c s
theorem Tryz.pB:(prog.info? 230).map (λa=>(a.zero,a.size,a.bytes))=σ (σ (ψ ν 0 0),1,24):=by kernel_rfl
theorem sZ(n:Nat):(madeCells (Value.slice ν 0 0).cells n).toList=List.replicate n sL:=by have:=zL (f:=λa:υ=>[a]) (k:=1) (λ_=>rfl) sL sL rfl (by decide) n;simpa using this
def CJ(L:List (List aD))(i:Nat):List (List aD):=L.take i++List.replicate (L.length - i) []
theorem D6(L:List (List aD))(a:p<=L.length):(CJ L p).length=L.length:=by simp[CJ];omega
theorem WD{L:List (List aD)}{a:List aD}(b:L[p]?=σ a):(CJ L p).set p a=CJ L (p+1):=by
 obtain⟨d,e⟩:=aj.mp b;unfold CJ;have c:(L.take p).length=p:=by simp;omega
 rw[show L.length - p=(L.length - (p+1))+1 by omega,gM,ef _ _ (by omega),c,da,dL,de,b];simp
theorem gu.put{w j:ω}{base n:Nat}{vs:List υ}{L:List (List aD)}{i:Nat}{u:υ}{k:List aD}(e:gu w base (ψ (σ ⟨p,0,ν⟩) n t) vs L)(r:L.length=n)(l:δ w.heap.size w j)(s:j.ownsRow w.heap.size 229 3 u k.length (bI k))(B:base<=w.heap.size):gu (j.setCell ⟨p,i,ν⟩ u) base (ψ (σ ⟨p,0,ν⟩) n t) (vs.set i u) (L.set i k):=by have o:=cq e.row l;rw[r]at o;have D:=(e.row.lt p rfl).2;have A:=(o.stored i u).1;have x:=grownBy_setCell j ⟨p,i,ν⟩ u;have m:∀b,u.ownBlock=σ b->w.heap.size<=b:=λb c=>(s.lt b c).1;refine⟨by rw[ny,r];exact A,(e.each.below l).set (dH (eB s B) x (λb c d=>?_)) (λf g C z a y=>dH ((e.each.below l).own f g C a y) x (λb c d=>?_)) (λf g b z a c d=>?_),λf g b a c d=>?_⟩;{cases c;have:=m p d;omega};{cases c;exact e.off f g p a d rfl};{have:=(e.each.lt a d).2;have:=m b c;omega};rw[bH]at a;split at a;{split at a;{cases a;have:=m b c;simp[Value.ownBlock]at d;omega};cases a};exact e.off f g b a c d
theorem CK{w:ω}{v:υ}{s:List Nat}{L:List (List aD)}(p:D5 w v l)(o:WC s L l)(h5:l.length<=1000):Calls prog 124 #[v] w λI w'=>∃v vs,I=τ v/\gu w' w.heap.size v vs L/\δ w.heap.size w w':=by
 obtain⟨Y,O,G,H,F⟩:=iC Tryz.pB;have R:=p;have z:=o;obtain⟨va,dq,m⟩:=bu.slice p;subst m;have d:=o.2.1;clear p o;go_in;go_wp2_with(at_make;refine dV _ rfl _ _ 152 rfl w.heap.size 230 Y _ 1 underlying152 O G H _ _ _ _ l.length rfl rfl rfl rfl (by rw[F];omega) (by unfold maxLen;omega) (by simp) ?_;intro K k C);rw[lS,sZ]at k;have E:δ w.heap.size w K:=(ah _ _).grown C (ae _) (by simp);have Q:Hid (gu K w.heap.size (ψ (σ ⟨w.heap.size,0,ν⟩) l.length l.length) (List.replicate l.length sL) (CJ L 0)):=ak ⟨by rw[D6 L (aK _),d];exact k,by unfold CJ;rw[lh,oA,dW,d];exact R5 _ _ _,λa aa V i X=>by
  rw[df]at i;split at i
  . cases i;cases X
  . cases i⟩
 have W:=E;clear k C E O G H F;go_wp2_with fail;go_loopw[10] (λc wr=>∃(a:Nat) (vs:List υ),a<=l.length/\c=ι κ a/\Hid (gu wr w.heap.size (ψ (σ ⟨w.heap.size,0,ν⟩) l.length l.length) vs (CJ L a))/\Hid (δ w.heap.size w wr)) (λc _=>l.length - (intOf c).toNat);case atStart=>exact⟨0,_,aK _,rfl,Q,W⟩
 case round=>obtain⟨a,vs,hi,rfl,j,f⟩:=hrel;by_cases D:a<l.length;{have ju:(a:Int)<l.length:=(by omega);obtain⟨u,x⟩:∃u,l[a]?=σ u:=⟨l[a],af D⟩;obtain⟨c,t⟩:∃c,L[a]?=σ c:=⟨L[a],af (by omega)⟩;obtain⟨r,B⟩:∃r,s[a]?=σ r:=⟨s[a]'(by rw[z.1];exact D),af _⟩;obtain⟨V,ac,ab,m,c0⟩:=D5.get (bu.below R f.J (ae _)) x;cases m;have A:=RZ (z.2.2 a r c u B t x) wr;have U:=ak t;clear x t B;go_wp2_with fail;refine A.mono ?_;rintro I w2 ⟨aa,rfl,b,g⟩;have y:=j.J.put (i:=a) (D6 L (by omega) |>.trans d) g b f.J.size;rw[WD U.J]at y;have P:=y;have jl:=f.J.trans (g.mono f.J.size);have e:=cq j.J.row g;rw[D6 L (by omega),d]at e;have fz:=e.frozenAt a;obtain⟨N,hx⟩:∃N,w2.cell? ⟨w.heap.size,a,ν⟩=σ N:=(by have:=e.cellAt a (by omega);rw[this,af (by have:=e.1;omega)];exact⟨_,rfl⟩);obtain⟨ua,nt,rfl,-,-⟩:=cu b;clear y b g e A;go_wp2_with fail;go_roundw;(case rel=>exact⟨a+1,_,by omega,by go_num,P,ak (jl.setCell (ae _) _)⟩);case measure=>simp[intOf];omega};obtain rfl:a=l.length:=(by omega);have b:=j.J;unfold CJ at b;rw[<- d,da,eV,dP,bQ]at b;have T:=ak b;clear b;go_wp2_with fail;go_ret;exact⟨_,_,rfl,by rw[<- d];exact T.J,f.J⟩
def JR(a b:Nat)(c:List aD):List aD:=(c.drop a).take (b - a)
def R8(a b:Nat)(L:List (List aD)):List (List aD):=L.map (JR a b)
theorem aay{a:Nat}{b:List aD}(c:p<=b.length):(JR a p b).length=p - a:=by simp[JR];omega
theorem R9{a:List aD}(g:u<(t - p)*3)(i:t<=a.length):(bI (JR p t a))[u]?=(bI a)[p*3+u]?:=by
 have f:u / 3<t - p:=by omega
 obtain⟨b,e⟩:∃b,a[p+u / 3]?=σ b:=⟨a[p+u / 3]'(by omega),af _⟩;have c:=dy oE 3 qR (JR p t a) (i:=u / 3) (a:=b) (by unfold JR;rw[gd,aF f,il];exact e) (j:=u % 3) (by omega);have d:=dy oE 3 qR a e (j:=u % 3) (by omega);rw[show u / 3*3+u % 3=u by omega]at c;rw[show(p+u / 3)*3+u % 3=p*3+u by omega]at d;exact c.trans d.symm
theorem mW.cut{w:ω}{n:Nat}{c:List aD}{a b:Nat}(g:mW w (ψ (σ ⟨p,t,ν⟩) n u) c)(m:a<b)(d:b<=c.length):mW w (ψ (σ ⟨p,t+a*3,ν⟩) (b - a) (u - a)) (JR a b c):=by
 have f:=aay (a:=a) d;refine⟨by unfold bI;rw[rG oE 3 qR],.inr ?_⟩;rcases g.2 with⟨s,-⟩|⟨o,x,y,j,r,i,k⟩
 {omega};cases j;refine⟨p,t+a*3,u - a,by rw[f],by omega,i,λl e=>?_⟩;rw[f]at e;rw[R9 e d,<- k (a*3+l) (by omega)];congr 2;omega
theorem eC.Mk{w:ω}{v:υ}{d:List (List aD)}(i:eC w v d){f:List aD}(g:d[p]?=σ f):∃a c e b,v=ψ (σ ⟨a,c,ν⟩) d.length e/\a<w.heap.size/\w.cell? ⟨a,c+p,ν⟩=σ b/\mW w b f:=by obtain⟨vs,j,k⟩:=i;obtain⟨b,l,m⟩:=k p f g;obtain⟨a,c,e,r,-,o,s⟩:=j.at (du (aK _) (aj.mp g).1);exact⟨a,c,e,b,r,o,s p b l,m⟩
theorem CL{n:Nat}{vs:List υ}(a:vs.length=p)(b:p<n):(vs++List.replicate (n - p) s).set p m=(vs++[m])++List.replicate (n - (p+1)) s:=by rw[show n - p=(n - (p+1))+1 by omega,gM,ef _ _ (by omega),a,da,dL];simp
theorem Tryz.aaz:(prog.info? 9).map (λa=>(a.zero,a.size,a.bytes))=σ (σ (θ ⟨#[]⟩),1,16):=by kernel_rfl
theorem aY{a:υ}{t:TypeId}(b:i.heap[p]?=σ (ξ #[m,s,a] t (0,0))):i.cell? ⟨p,0,ν⟩=σ m/\i.cell? ⟨p,1,ν⟩=σ s/\i.cell? ⟨p,2,ν⟩=σ a:=by simp[World.cell?,b]
theorem WE(n:Nat):(madeCells (Value.string ⟨#[]⟩).cells n).toList=List.replicate n (θ ⟨#[]⟩):=by have:=zL (f:=λa:υ=>[a]) (k:=1) (λ_=>rfl) (θ ⟨#[]⟩) (θ ⟨#[]⟩) rfl (by decide) n;simpa using this
theorem Si{w:ω}{q:Nat}{n:Int}{cv sv:υ}{cols:List br}{L:List (List aD)}{p:Int}(D:w.heap[q]?=σ (ξ #[cv,sv,ι κ n] 205 (0,0)))(B:ew w cv cols)(F:eC w m L)(Q:L.length=cols.length)(o:∀b∈cols,b.2<=2)(T:∀(a:Nat) (u:List aD) (c:br),L[a]?=σ u->cols[a]?=σ c->WB c.2 u)(U:∀u∈L,u.length<=64)(h0:0<=p)(f:p<=3)(h5:L.length<=1000) :
 Calls prog 283 #[π (σ ⟨q,0,ν⟩),m,ι κ p] w λaa w'=>∃v d,aa=τ v/\w'.ownsRow w.heap.size 9 1 v d.length (d.map .string)/\WC (cols.map (·.2)) L d/\δ w.heap.size w w':=by
 obtain⟨i0,yG,X,Y,W⟩:=iC Tryz.aaz;have HT:=ak D;have HC:=B;have HV:=F;have HF:=ak T;have HK:=ak o;have HL:=ak U;have Je:=aw D;obtain⟨ca,ij,j⟩:=B.slice;subst j;obtain⟨va,dq,j⟩:=F.slice;subst j;have y:=ak Q;clear F B D T o U Q;go_in;go_wp2_with(at_make;refine dV _ rfl _ _ 265 rfl w.heap.size 9 i0 _ 1 underlying265 yG X Y _ _ _ _ L.length rfl rfl rfl rfl (by rw[W];omega) (by unfold maxLen;omega) (by simp) ?_;intro w1 z K);rw[lS,WE]at z;have gq:Hid (δ w.heap.size w w1):=ak ((ah _ _).grown K (ae _) (by simp));have HO:=z;clear z K yG X Y W;go_wp2_with fail;go_loopw[14] (λb wr=>∃(a:Nat) (d:List ByteArray),a<=L.length/\b=ι κ a/\d.length=a/\Hid (wr.ownsRow w.heap.size 9 1 (ψ (σ ⟨w.heap.size,0,ν⟩) L.length L.length) L.length (d.map .string++List.replicate (L.length - a) (θ ⟨#[]⟩)))/\Hid (∀(g:Nat) (c:br) (b:List aD) (i:ByteArray),cols[g]?=σ c->L[g]?=σ b->d[g]?=σ i->Txt c.2 b i)/\Hid (δ w.heap.size w wr)) (λb _=>L.length - (intOf b).toNat);case atStart=>exact⟨0,[],aK _,rfl,rfl,by rw[oA,xM,dW];exact HO,ak (λg ab b i h e k=>by simp at k),gq⟩
 case round=>
  obtain⟨a,d,hi,rfl,r,I,H,l⟩:=hrel;by_cases O:a<L.length;{have ju:(a:Int)<L.length:=(by omega);have ap:(a:Int)<cols.length:=(by have:=y.J;omega);obtain⟨b,t⟩:∃b,L[a]?=σ b:=⟨L[a],af O⟩;obtain⟨c,s⟩:∃c,cols[a]?=σ c:=⟨cols[a]'(by have:=y.J;omega),af _⟩;obtain⟨an,ao,aq,ab,j,Ou,P,E⟩:=HV.Mk t;cases j;have c0:=(l.J.cell (p:=⟨an,ao+a,ν⟩) Ou).trans P;have R:mW wr.drew ab b:=bu.below E (aH l.J) (ae _);obtain⟨kg,ko,fx,j,k0,k1⟩:=ew.get (HC.below l.J (ae _)) s;cases j;obtain⟨t0,t1,t2⟩:=aY ((l.J.block q Je).trans HT.J);have HP:=aax (w:=wr.drew) h0 f (HK.J c (aA s)) (HL.J b (aA t)) (HF.J a b c t s) R;obtain⟨ua,nt,j⟩:=bu.slice E;subst j;have UL:=ak t;have ac:=ak s;clear t s E P R;go_wp2_with fail;go_region_with(go_at_call 184;refine HP.mono ?_;rintro aa w2 ⟨i,rfl,V,N⟩;have A:=(aH (ah wr.heap.size wr)).trans N;have x:=cq I.J A;have fz:=x.frozenAt a;have d1:=x.cellAt a (by omega);rw[bp (by simp;omega),df,aF (by simp;omega)]at d1;have G:=(x.stored a (θ i)).1;rw[CL (by simp[r]) O]at G;have tD:=ak G;have al:=ak V;have nF:=ak (l.J.trans (A.mono l.J.size));clear N A x G V);all_goals((try go_wp2_with fail);refine⟨⟨a+1,d++[i],by omega,by go_num,by simp[r],by rw[dY];exact tD,ak (λg c b i e k f=>?_),ak (nF.J.setCell (ae _) _)⟩,by simp[intOf];omega⟩;rw[iz]at f;split at f;{exact H.J g c b i e k f};have hj:g=a:=(by have:=(aj.mp f).1;simp at this;omega);subst hj;rw[r,da]at f;cases f;rw[UL.J]at k;rw[ac.J]at e;cases k;cases e;exact al.J)}
  obtain rfl:a=L.length:=by omega
  have C:=I.J;rw[da,dP,bQ]at C;have HR:=C;have ad:Hid (WC (cols.map (·.2)) L d):=ak ⟨by rw[aQ,r];exact y.J.symm,r.symm,λg c b i e k f=>by
   rw[aV]at e
   cases o:cols[g]? with
   |none=>rw[o]at e;cases e
   |some am=>rw[o]at e;cases e;exact H.J g am b i o k f⟩
  clear C;go_wp2_with fail;go_ret;exact⟨_,d,rfl,by rw[r];exact HR,ad.J,l.J⟩
theorem WJ(n:Nat):(madeCells (Value.int κ 0).cells n).toList=List.replicate n (ι κ 0):=by have:=zL (f:=λa:υ=>[a]) (k:=1) (λ_=>rfl) (ι κ 0) (ι κ 0) rfl (by decide) n;simpa using this
theorem CM(n:Nat)(C:n<=1000)(w:ω):Calls prog 119 #[ι κ n] w λx w'=>∃v,x=τ v/\w'.ownsRow w.heap.size 3 1 v n ((List.range n).map mM)/\δ w.heap.size w w':=by
 obtain⟨r,A,t,u,s⟩:=iC Tryz.vP;go_in;go_wp2_with(at_make;refine dV _ rfl _ _ 36 rfl w.heap.size 3 r _ 1 underlying36 A t u _ _ _ _ n rfl rfl rfl rfl (by rw[s];omega) (by unfold maxLen;omega) (by simp) ?_;intro z e l);rw[lS,WJ]at e;have p:Hid (δ w.heap.size w z):=ak ((ah _ _).grown l (ae _) (by simp));have j:=ak e;go_wp2_with fail;go_loopw[9] (λb wr=>∃a:Nat,a<=n/\b=ι κ a/\Hid (wr.ownsRow w.heap.size 3 1 (ψ (σ (Ad w.heap.size 0)) n n) n ((List.range a).map mM++List.replicate (n - a) (ι κ 0)))/\Hid (δ w.heap.size w wr)) (λb _=>n - (intOf b).toNat);case atStart=>exact⟨0,aK _,rfl,by simpa using j,p⟩
 case round=>obtain⟨a,B,rfl,d,i⟩:=hrel;by_cases m:a<n;{have D:(a:Int)<n:=(by omega);have c:=d.J;have fz:=c.frozenAt a;have o:=c.cellAt a (by omega);rw[bp (by simp),df,aF (by simp;omega)]at o;have g:=(c.stored a (ι κ a)).1;rw[CL (by simp) m]at g;have y:=ak (show(wr.setCell (Ad w.heap.size a) (ι κ a)).ownsRow w.heap.size 3 1 (ψ (σ (Ad w.heap.size 0)) n n) n ((List.range (a+1)).map mM++List.replicate (n - (a+1)) (ι κ 0))from by rw[sy,dY];exact g);go_wp2_with fail;exact⟨⟨a+1,by omega,by go_num,y,ak (i.J.setCell (ae _) _)⟩,by simp[intOf];omega⟩};obtain rfl:a=n:=(by omega);have f:=d.J;rw[da,dP,bQ]at f;have k:=ak f;go_wp2_with fail;go_ret;exact⟨_,rfl,k.J,i.J⟩
theorem dJ.set{ok:List aD->Prop}{a:List aD->dj}(f:dJ i p s ok a)(r:t<p):dJ (i.setCell (Ad t u) m) p s ok a:=by obtain⟨n,e,o,l,k⟩:=f;refine⟨n,e,o,l,λd b=>k d ⟨?_,λc g j=>?_⟩⟩;{have:=b.1;simpa[World.setCell]using this};exact(b.2 c g (by simpa[World.setCell]using j)).trans (ay _ _ _ _ (show c≠t by omega))
theorem Hp{w:ω}{q:Nat}{n:Int}{cv sv:υ}{cols:List br}(m:w.heap[q]?=σ (obN cv sv n))(Q:ew w cv cols)(h5:cols.length<=5)(ok:List aD->Prop) :
 Calls prog 90 #[π (σ (Ad q 0))] w λd w'=>∃v i B,d=τ (χ #[v,i])/\gw w' v (List.range cols.length)/\dJ w' B i ok (λ_=>.inl (po 1))/\w.heap.size<B/\δ w.heap.size w w':=by
 obtain⟨X,ij,R⟩:=Q.slice;subst R;have r:δ w.heap.size w (w.alloc (obR ν 0 0 .nilFunc)):=(ah _ _).alloc (ae _) _;obtain⟨t0,t1,t2⟩:=aY ((r.block q (aw m)).trans m);have W:=aw m;have F:=ak (au w (obR ν 0 0 .nilFunc));go_in;go_wp2_with fail;refine(CM cols.length (by omega) _).mono ?_;rintro d e ⟨v,rfl,o,u⟩;obtain⟨t,l,rfl,-,-⟩:=cu o;have C:=r.trans (u.mono r.size);have E:=yT (w:=e) (lo:=e.heap.size) (fv:=.func (.func 121) #[] #[]) (ok:=ok) (G:=λ_=>po 1) ⟨_,_,rfl,call121,λb c G Y d _ _ _=>ane G d b⟩ (ae _);have j:=ak ((u.block _ (by simp)).trans F.J);go_wp2_with fail;refine E.mono ?_;rintro d w2 ⟨i,rfl,y,k⟩;have s:=(k.block _ (aw j.J)).trans j.J;obtain⟨U,V⟩:=aR s;have z0:=eR s 0;have z1:=eR s 1;have T:=C.trans (k.mono C.size);have p:w.heap.size<e.heap.size:=aw j.J;have D:=ak (λf b=>(show δ w.heap.size w ((w2.setCell (Ad w.heap.size 0) f).setCell (Ad w.heap.size 1) b)/\gw ((w2.setCell (Ad w.heap.size 0) f).setCell (Ad w.heap.size 1) b) (ψ t cols.length l) (List.range cols.length)/\dJ ((w2.setCell (Ad w.heap.size 0) f).setCell (Ad w.heap.size 1) b) e.heap.size i ok (λ_=>.inl (po 1))from by
  refine⟨(T.setCell (ae _) _).setCell (ae _) _,?_,(y.set p).set p⟩;have N:=cq o k;have x:∀a,(Value.slice t cols.length l).ownBlock=σ a->a≠w.heap.size:=λa c g=>by have:=(o.lt a c).1;simp at this;omega
  have O:=dH N (grownBy_setCell w2 (Ad w.heap.size 0) f) (λa c g=>x a g (by cases c;rfl));have P:=dH O (grownBy_setCell _ (Ad w.heap.size 1) b) (λa c g=>x a g (by cases c;rfl));have:=bu.eY P;unfold gw;rw[cV];exact this))
 obtain⟨A,z,rfl,-⟩:=y;have aa:=iP A z;go_wp2_with fail;refine aB (by simp[results,results90,go_sem,U,V];rfl) rfl ?_;obtain⟨H,I,K⟩:=D.J (ψ t cols.length l) (.func (.func A) #[] z);exact⟨_,_,e.heap.size,rfl,I,K,p,H⟩
def tL(F S:List (List aD)):List (List aD):=(F.zip S).map λp=>p.1++p.2
theorem KL{c S:List (List aD)}{a b:List aD}(d:c[p]?=σ a)(e:S[p]?=σ b):(tL c S)[p]?=σ (a++b):=by unfold tL;rw[aV,List.getElem?_zip_eq_some (z:=(a,b)) |>.mpr ⟨d,e⟩];rfl
theorem pO{a S:List (List aD)}(b:a.length=S.length):(tL a S).length=a.length:=by simp[tL];omega
def gy(F S:List (List aD))(i:Nat):List (List aD):=(tL F S).take i++F.drop i
theorem Bz{a S:List (List aD)}{b c:List aD}(d:a[p]?=σ b)(g:S[p]?=σ c)(f:a.length=S.length):(gy a S p).set p (b++c)=gy a S (p+1):=by
 obtain⟨e,k⟩:=aj.mp d;have i:=KL d g;have j:((tL a S).take p).length=p:=by rw[bV,pO f];omega
 unfold gy;rw[cA e,ef _ _ (by omega),j,da,dL,de,i];simp
theorem xk{a S:List (List aD)}(b:a.length=S.length)(c:p<=a.length):(gy a S p).length=a.length:=by unfold gy;rw[az,bV,pO b,bW];omega
theorem BA{a S:List (List aD)}(b:a.length=S.length)(d:p<a.length):(gy a S p)[p]?=a[p]?:=by
 have c:((tL a S).take p).length=p:=by rw[bV,pO b];omega
 unfold gy;rw[bp (by omega),c,da,il,lQ]
theorem WK{d:List aD}:∀c∈bI d,c.oneCell'=true:=by intro c a;unfold bI at a;rw[List.mem_flatMap]at a;obtain⟨e,-,b⟩:=a;simp[oE]at b;rcases b with rfl|rfl|rfl<;>rfl
theorem Tryz.zT:(prog.info? 229).map (λa=>(a.zero,a.size,a.bytes))=σ (σ (χ #[.bool false,ι κ 0,θ ⟨#[]⟩]),3,32):=by kernel_rfl
structure yW (w wr:ω)(base:Nat)(fv:υ)(vs:List υ)(F S:List (List aD))(o n i:Nat)(ms:List υ):Prop where
 first:wr.ownsRow base 230 1 fv F.length vs
 out:wr.ownsRow w.heap.size 230 1 (ψ (σ (Ad o 0)) n n) n (ms.take i++List.replicate (n - i) sL)
 rows:qL wr base ms (gy F S i)
 old:∀j,i<=j->ms[j]?=vs[j]?
 off:∀(j:Nat) (u:υ) (g:Nat),ms[j]?=σ u->u.ownBlock=σ g->fv.ownBlock≠σ g/\g≠o
 sX:δ base w wr
 ajj:fv.ownBlock≠σ o
theorem take_set{d:Type}{a:List d}{n:Nat}{b c:d}(g:a.length=n)(f:p<n):(a.take p++List.replicate (n - p) c).set p b=(a.set p b).take (p+1)++List.replicate (n - (p+1)) c:=by
 have e:(a.take p).length=p:=by simp;omega
 rw[show n - p=(n - (p+1))+1 by omega,gM,ef _ _ (by omega),e,da,dL,de,List.take_set,bH,aF rfl,aF (by omega),List.set_eq_of_length_le (by omega)];simp
theorem yW.drew{w wr:ω}{base:Nat}{vs:List υ}{b S:List (List aD)}{n:Nat}(a:yW w wr base m vs b S p n t x):yW w wr.drew base m vs b S p n t x:=⟨a.first,a.out,⟨a.rows.len,a.rows.own,a.rows.apart⟩,a.old,a.off,aH a.sX,a.ajj⟩
theorem yW.next{w wr w3:ω}{base:Nat}{vs:List υ}{l S:List (List aD)}(b:yW w wr base m vs l S p l.length t x)(F:l.length=S.length){e f:List aD}(D:l[t]?=σ e)(O:S[t]?=σ f)(o:x[t]?=σ s){g cap:Nat}
 (N:w3.ownsRow base 229 3 (ψ (σ (Ad g 0)) (e.length+f.length) cap) (e.length+f.length) (bI e++bI f)) (z:wr.grownBy w3 s.ownBlock) (B:s.ownBlock=σ g\/g=wr.heap.size) (U:base<=p) :
 yW w (w3.setCell (Ad p t) (ψ (σ (Ad g 0)) (e.length+f.length) cap)) base m vs l S p l.length (t+1) (x.set t (ψ (σ (Ad g 0)) (e.length+f.length) cap))/\w3.cell? (Ad p t)=σ sL/\w3.frozen? (Ad p t)=false:=by
 have E:t<l.length:=(aj.mp D).1;have K:x.length=l.length:=by rw[b.rows.len,xk F (fL E)]
 have X:=(b.out.lt p rfl).2;have I:g≠p:=(by rcases B with a|a;{exact(b.off t s g o a).2};omega);have R:m.ownBlock≠σ g:=(by rcases B with a|a;{exact(b.off t s g o a).1};intro y;have:=(b.first.lt g y).2;omega);have Q:∀d k,d≠t->x[d]?=σ k->k.ownBlock≠σ g:=by
  intro d k r G y;rcases B with a|a
  {exact b.rows.apart t d s k g (λa=>r a.symm) o G a y};have:=(b.rows.lt G y).2;omega
 have A:=dH b.out z (λj c a=>(b.off t s j o c).2 (by simpa[Value.ownBlock]using a.symm));have H:=(A.stored t (ψ (σ (Ad g 0)) (e.length+f.length) cap)).1;rw[take_set K E]at H;have C:=grownBy_setCell w3 (Ad p t) (ψ (σ (Ad g 0)) (e.length+f.length) cap);have P:bI e++bI f=bI (e++f):=by simp[bI]
 have T:w3.ownsRow base 229 3 (ψ (σ (Ad g 0)) (e.length+f.length) cap) (e++f).length (bI (e++f)):=by rw[az,<- P];exact N
 refine⟨⟨dH (dH b.first z (λj c a=>(b.off t s j o c).1 a)) C (λj c a=>by cases c;exact b.ajj a),H,?_,λd r=>?_,λd k j i u=>?_,?_,b.ajj⟩,?_,A.frozenAt t⟩;{rw[<- Bz D O F];refine b.rows.set (dH T C (λj c a=>by cases c;simp[Value.ownBlock]at a;exact I a)) (λd k V r i u=>dH (dH (b.rows.own d k V i u) z (λj c a=>b.rows.apart t d s k j (λa=>r a.symm) o i c a)) C (λj c a=>by cases c;exact(b.off d k p i a).2 rfl)) (λd k j r i c=>by simp[Value.ownBlock]at c;subst c;exact Q d k r i)};{rw[bH,aE (by omega)];exact b.old d (by omega)};{rw[bH]at i;split at i;{split at i;{cases i;simp[Value.ownBlock]at u;subst u;exact⟨R,I⟩};cases i};exact b.off d k j i u};{have W:=b.sX.size;refine(b.sX.grown z (by have:=b.out.lt p rfl;omega) (λj c=>(b.rows.lt o c).1)).setCell U _};rw[A.cellAt t (by omega),bp (by simp;omega),df,aF (by simp;omega)]
def jO(M:Nat->Prop)(v:υ):Prop:=∀a n c,v=ψ (σ a) n c->¬M a.block
def ik(M:Nat->Prop)(w:ω)(v:υ)(L:List (List aD)):Prop:=jO M v/\∃vs,bu w 1 v L.length vs/\∀(i:Nat) (c:List aD),L[i]?=σ c->∃u,vs[i]?=σ u/\mW w u c/\jO M u
theorem ik.batch{M:Nat->Prop}{w:ω}{v:υ}{L:List (List aD)}(b:ik M w v L):eC w v L:=by obtain⟨-,vs,c,d⟩:=b;exact⟨vs,c,λi a g=>by obtain⟨j,e,f,-⟩:=d i a g;exact⟨j,e,f⟩⟩
theorem Sj{w:ω}{base:Nat}{sv:υ}{vs:List υ}{a S:List (List aD)}(k:gu w base m vs a)(H:∀w',δ base w w'->eC w' sv S)(X:a.length=S.length)(h5:a.length<=1000)(V:∀(b:Nat) (c e:List aD),a[b]?=σ c->S[b]?=σ e->0<e.length/\c.length+e.length<=1000)(K:base<=w.heap.size) :
 Calls prog 282 #[m,sv] w λan w'=>∃v,an=τ v/\ik (·<base) w' v (tL a S)/\δ base w w':=by
 obtain⟨i0,yG,lC,lI,kQ⟩:=iC Tryz.pB;obtain⟨j0,Ml,Mn,Mp,Mq⟩:=iC Tryz.zT;obtain⟨T,P,rfl,O,-⟩:=cu k.row;obtain⟨sa,lL,rfl⟩:=(H w (ah _ _)).slice;have HS:=ak H;have i:=ak X;have HC:=ak V;have ab:=ak O;clear H X V O;go_in;go_wp2_with(at_make;refine dV _ rfl _ _ 152 rfl w.heap.size 230 i0 _ 1 underlying152 yG lC lI _ _ _ _ a.length rfl rfl rfl rfl (by rw[kQ];omega) (by unfold maxLen;omega) (by simp) ?_;intro w1 C Q);rw[lS,sZ]at C;have u:δ w.heap.size w w1:=(ah _ _).grown Q (ae _) (by simp);have HJ:Hid (yW w w1 base (ψ T a.length P) vs a S w.heap.size a.length 0 vs):=ak ⟨cq k.row u,by rw[lh,dW,oA];exact C,by have:=k.each.below u;unfold gy;rw[lh,dW,nZ];exact this,λ_ _=>rfl,λf r E j o=>⟨k.off f r E j o,λg=>by have:=(k.each.lt j o).2;omega⟩,u.mono K,λg=>by have:=(k.row.lt _ g).2;omega⟩;clear C Q u yG lC lI kQ;go_wp2_with fail;go_loopw[12] (λl wr=>∃(b:Nat) (t:List υ),b<=a.length/\l=ι κ b/\Hid (yW w wr base (ψ T a.length P) vs a S w.heap.size a.length b t)) (λl _=>a.length - (intOf l).toNat);case atStart=>exact⟨0,vs,aK _,rfl,HJ⟩
 case round=>
  obtain⟨b,t,hi,rfl,N⟩:=hrel;by_cases R:b<a.length;{have ju:(b:Int)<a.length:=(by omega);have ao:(b:Int)<S.length:=(by have:=i.J;omega);obtain⟨E,rfl,aq⟩:=ab.J (by omega);obtain⟨c,s⟩:∃c,a[b]?=σ c:=⟨a[b],af R⟩;obtain⟨e,x⟩:∃e,S[b]?=σ e:=⟨S[b]'(by have:=i.J;omega),af _⟩;obtain⟨mL,F7⟩:=HC.J b c e s x;have d:=N.J;obtain⟨r,I,-⟩:=k.each.cells s;have A:t[b]?=σ r:=(d.old b (ae _)).trans I;have B:=d.rows.own b r c A ((BA i.J R).trans s);obtain⟨ua,nt,rfl,av,ap⟩:=cu B;have c0:wr.cell? (Ad E b)=σ (ψ ua c.length nt):=(d.first.cellAt b (by omega)).trans I;obtain⟨sg,so,Hq,v,he,ar,s0,p⟩:=(HS.J wr d.sX).Mk x;cases he;obtain⟨vg,vo,dq,rfl,ax,aC,aa⟩:=bu.at p mL;have al:Hid (wr.drew.ownsRow base 229 3 (ψ ua c.length nt) c.length (bI c)):=ak B;have uj:Hid (∀f z,(bI e)[f]?=σ z->wr.drew.cell? (((Ad vg vo):Addr).add f)=σ z):=ak (λf z h=>by have g:=aa f z h;cases f with|zero=>simpa[Addr.add]using g|succ f=>simpa[Addr.add]using g);have ad:=ak (λ(F D:Nat) (y:ω) j (o:wr.drew.grownBy y _) h3=>d.drew.next i.J s x A (g:=F) (cap:=D) (w3:=y) j o h3 K);have am:=ag K (fL (d.out.lt w.heap.size rfl).2);have Y:(bI e).length=e.length*3:=(by unfold bI;exact rG oE 3 qR e);have Oy:=ak Y;clear d p B aa A I s x Y;go_wp2_with fail;go_region_law(refine step_append_lies _ rfl (.tmp 20) (.tmp 24) 230 rfl base 229 j0 _ 3 32 underlying230 Ml Mn Mp Mq rfl (by decide) _ _ _ (by simp[Act.eval]) al.J (Ad vg vo) e.length dq (bI e) (by simp[Act.eval]) Oy.J uj.J WK mL (by unfold maxLen;omega) (by omega) am wr.heap.size rfl ?_;intro F D y oG j9 uE _;obtain⟨U,d0,fz⟩:=ad.J F D y oG j9 uE;have ac:=ak U;clear U oG j9 uE);all_goals((try go_wp2_with fail);go_roundw;(case rel=>exact⟨b+1,_,by omega,by go_num,ac⟩);case measure=>simp[intOf];omega)}
  obtain rfl:b=a.length:=by omega
  have d:=N.J;have G:=d.out;have KM:t.length=a.length:=by rw[d.rows.len,xk i.J (ae _)]
  rw[da,dP,bQ,aI (by omega)]at G;have g:gy a S a.length=tL a S:=by unfold gy;rw[fC,bQ,aI (by rw[pO i.J];exact ae _)]
  have HR:Hid (ik (·<base) wr (ψ (σ (Ad w.heap.size 0)) a.length a.length) (tL a S)):=ak ⟨λc n l p hm=>by cases p;simp at hm;omega,t,by rw[pO i.J];exact bu.eY G,λf l W=>by
   rw[<- g]at W;obtain⟨r,j,o⟩:=d.rows.cells W;exact⟨r,j,o,λc n l p hm=>by
    have:=(d.rows.lt (g:=c.block) j (by rw[p];rfl)).1;omega⟩⟩
  have HB:=d.sX;clear d G KM g;go_wp2_with fail;go_ret;exact⟨_,rfl,HR.J,HB⟩
def bh(n:Nat)(R:List (List aD)):List (List aD):=(List.range n).map λj=>R.map λr=>r.getD j fD
theorem bB(n:Nat)(a:List (List aD)):(bh n a).length=n:=by simp[bh]
theorem Hr{n:Nat}{b:List (List aD)}{c:List aD}(a:(bh n b)[p]?=σ c):p<n/\c=b.map λf=>f.getD p fD:=by
 unfold bh at a;rw[aV]at a
 cases hr:(List.range n)[p]? with
 |none=>rw[hr]at a;cases a
 |some g=>
   rw[hr]at a
   cases a
   obtain⟨d,e⟩:=aj.mp hr;simp at d e;subst e;exact⟨d,rfl⟩
theorem gA{n:Nat}{R:List (List aD)}(a:p<n):(bh n R)[p]?=σ (R.map λb=>b.getD p fD):=by unfold bh;rw[aV,eP a];rfl
theorem ep{n:Nat}{b:List (List aD)}{c:List aD}(a:c∈bh n b):c.length=b.length:=by unfold bh at a;rw[cE]at a;obtain⟨d,-,rfl⟩:=a;simp
theorem uF(n:Nat)(b c:List (List aD)):tL (bh n b) (bh n c)=bh n (b++c):=by apply cB;intro d;by_cases a:d<n;{rw[KL (gA a) (gA a),gA a,dY]};rw[aZ (by rw[pO (by rw[bB,bB]),bB];omega),aZ (by rw[bB];omega)]
theorem tM(n a c:Nat)(b:List (List aD)):R8 a c (bh n b)=bh n ((b.drop a).take (c - a)):=by apply cB;intro e;unfold R8;by_cases d:e<n;{rw[aV,gA d,gA d];simp[JR,List.map_drop,List.map_take]};rw[aZ (by rw[aQ,bB];omega),aZ (by rw[bB];omega)]
def BD(cols:List br)(r:List aD):Prop:=r.length=cols.length/\∀(j:Nat) (c:aD) (k:br),r[j]?=σ c->cols[j]?=σ k->Mi k.2 c
def fB(cols:List br)(R:List (List aD)):Prop:=∀r∈R,BD cols r
theorem ae5{cols:List br}{c:List (List aD)}(i:fB cols c){d:List aD}{b:br}(j:(bh cols.length c)[p]?=σ d)(k:cols[p]?=σ b):WB b.2 d:=by
 obtain⟨m,rfl⟩:=Hr j;intro r l;obtain⟨a,o,rfl⟩:=cE.mp l;have e:=i a o;have f:p<a.length:=by rw[e.1];exact m
 have g:a[p]?=σ (a.getD p fD):=by simp[List.getD,List.getElem?_eq_getElem f]
 exact e.2 p _ b g k
def nG(S:Nat)(Cs:List (List (List aD))):Prop:=∀(i:Nat) (c:List (List aD)),Cs[i]?=σ c->0<c.length/\c.length<=S/\(i+1<Cs.length->c.length=S)
theorem nG.nil{S:Nat}:nG S []:=λc b a=>by simp at a
theorem nG.snoc{S:Nat}{b:List (List (List aD))}{c:List (List aD)}(e:∀d∈b,d.length=S)(l:0<S)(g:0<c.length)(i:c.length<=S):nG S (b++[c]):=by intro k d a;rw[iz]at a;split at a;{have:=e d (aA a);exact⟨by omega,by omega,λ_=>this⟩};have j:=(aj.mp a).1;simp at j;have f:k - b.length=0:=(by omega);rw[f]at a;cases a;exact⟨g,i,λe=>by simp at e;omega⟩
theorem vQ{S:Nat}:∀{a:List (List (List aD))},(∀b∈a,b.length=S)->a.flatten.length=a.length*S
 |[],_=>by simp
 |b::l,h=>by
   rw[List.flatten_cons,az,vQ (λd c=>h d (by simp[c])),h b (by simp),a7,nY];omega
theorem nG.last{S:Nat}{d:List (List (List aD))}(g:nG S d):(d.flatten.length % S=0/\∀b∈d,b.length=S)\/∃Ds a,d=Ds++[a]/\(∀b∈Ds,b.length=S)/\0<a.length/\a.length<S/\d.flatten.length % S=a.length:=by
 rcases List.eq_nil_or_concat d with rfl|⟨Ds,a,rfl⟩;{exact .inl ⟨by simp,λb c=>by simp at c⟩}
 have e:∀b∈Ds,b.length=S:=(by intro b c;obtain⟨m,j⟩:=dz c;have l:=(aj.mp j).1;exact(g m b (by rw[lu,cw l];exact j)).2.2 (by simp;omega));have k:=g Ds.length a (by rw[lu,bp (ae _)];simp);have f:(Ds.concat a).flatten.length=Ds.length*S+a.length:=by rw[lu,jc,az,vQ e];simp
 by_cases i:a.length=S
 .refine .inl ⟨by rw[f,i,Nat.add_mod_right,Nat.mul_mod_left],λb c=>?_⟩;rw[lu,bP,bj]at c;rcases c with c|rfl
  {exact e b c};exact i
 refine .inr ⟨Ds,a,by rw[lu],e,k.1,by omega,?_⟩;rw[f,Nat.mul_add_mod_self_right];exact wB (by omega)
def qj(w:ω)(cols:List br)(vs:List υ)(Cs:List (List (List aD))):Prop:=vs.length=Cs.length/\∀(i:Nat) (u:υ) (c:List (List aD)),vs[i]?=σ u->Cs[i]?=σ c->∃ss,D5 w u ss/\WC (cols.map (·.2)) (bh cols.length c) ss
def kY(q:Nat)(sv:υ)(b:Nat):Prop:=b=q\/sv.ownBlock=σ b
theorem bu.moves{w w':ω}{size n:Nat}{v:υ}{M:Nat->Prop}(c:bu w size v n x)(o:jO M v)(r:w.heap.size<=w'.heap.size)(j:∀a,a<w.heap.size->¬M a->w'.heap[a]?=w.heap[a]?):bu w' size v n x:=by
 refine⟨c.1,?_⟩;rcases c.2 with i|⟨b,f,g,d,k,l,p⟩
 {exact .inl i};refine .inr ⟨b,f,g,d,k,by omega,λe m=>?_⟩;rw[<- p e m];exact bZ (w:=w) (a:=(Ad b (f+e))) (j b l (o _ _ _ d))
section
variable {M M':Nat->Prop} {w w':ω} {v:υ} {L:List (List aD)}
theorem ik.moves(g:ik M w v L)(e:w.heap.size<=w'.heap.size)(d:∀a,a<w.heap.size->¬M a->w'.heap[a]?=w.heap[a]?):ik M w' v L:=by obtain⟨b,vs,i,j⟩:=g;exact⟨b,vs,i.moves b e d,λo f m=>by obtain⟨p,k,l,c⟩:=j o f m;exact⟨p,k,bu.moves l c e d,c⟩⟩
theorem bu.inside{size n:Nat}(e:bu w size v n x)(l:0<n):∀a d b,v=ψ (σ a) d b->a.block<w.heap.size:=by
 intro a d b g;rcases e.2 with⟨k,-⟩|⟨j,m,i,c,-,f,-⟩
 {omega};rw[g]at c;cases c;exact f
theorem ik.weaken(b:ik M w v L)(k:∀e,M' e->M e\/w.heap.size<=e)(t:0<L.length)(s:∀a∈L,0<a.length):ik M' w v L:=by
 obtain⟨m,vs,i,o⟩:=b;refine⟨λc n a d f=>?_,vs,i,λu a l=>?_⟩;{rcases k _ f with b|b;{exact m c n a d b};have:=i.inside t c n a d;omega}
 obtain⟨x,p,j,r⟩:=o u a l;refine⟨x,p,j,λc n g d f=>?_⟩;rcases k _ f with b|b
 {exact r c n g d b};have:=bu.inside j (s a (aA l)) c n g d;omega
end
theorem qj.moves{M:Nat->Prop}{w w':ω}{cols:List br}{vs:List υ}{c:List (List (List aD))}(d:qj w cols vs c)(l:∀b∈vs,jO M b)(m:w.heap.size<=w'.heap.size)(k:∀a,a<w.heap.size->¬M a->w'.heap[a]?=w.heap[a]?):qj w' cols vs c:=
 ⟨d.1,λo b f e g=>by obtain⟨p,i,j⟩:=d.2 o b f e g;exact⟨p,bu.moves i (l b (aA e)) m k,j⟩⟩
theorem Oz{w:ω}{base size n:Nat}{d:TypeId}{a:Option Addr}(b:w.ownsRow base d size (ψ a n t) n x)(c:p<=n)(m:0<n):w.ownsRow base d size (ψ a p t) p (x.take (p*size)):=by
 refine⟨by rw[bV,b.1];exact fA (gg _ c),?_⟩;rcases b.2 with⟨-,o⟩|⟨e,s,cur,l,k,j,r,f,g,i⟩
 {omega};cases l;refine .inr ⟨e,t,cur,rfl,k,j,by omega,f,g,?_⟩;rw[<- i,List.take_take,fA (gg _ c)]
structure oY (Z:Nat->Prop)(w wr:ω)(q base:Nat)(cols:List br)(cv rD sv:υ)(vs:List υ)(Ds:List (List (List aD)))(n:Int):Prop where
 eW:wr.heap[q]?=σ (ξ #[cv,sv,ι κ n] 205 (0,0))
 Ji:ew wr cv cols
 own:wr.ownsRow base 265 1 sv Ds.length vs
 sq:qj wr cols vs Ds
 row:∀g,sv.ownBlock=σ g->rD.ownBlock=σ g\/w.heap.size<=g
 off:sv.ownBlock≠σ q
 Mr:jO (kY q sv) cv
 JU:∀u∈vs,jO (kY q sv) u
 keep:aX (λb=>b<w.heap.size/\¬kY q rD b) w wr
 lq:q<w.heap.size
 zap:∀u∈vs,jO Z u
 zin:∀b,Z b->b<w.heap.size
section
variable {Z:Nat->Prop} {w wr w2:ω} {q base:Nat} {cols:List br} {cv rD sv:υ} {vs:List υ} {Ds:List (List (List aD))} {n:Int}
theorem oY.below(a:oY Z w wr q base cols cv rD sv vs Ds n)(b:δ wr.heap.size wr w2):oY Z w w2 q base cols cv rD sv vs Ds n:=
 ⟨(b.block q (aw a.eW)).trans a.eW,a.Ji.below b (ae _),cq a.own b,a.sq.moves a.JU b.size (λc d _=>b.block c d),a.row,a.off,a.Mr,a.JU,a.keep.trans ⟨b.os,b.tape,b.output,b.size,λc e=>b.block c (ai e.1 a.keep.size)⟩,a.lq,a.zap,a.zin⟩
theorem oY.put(b:oY Z w wr q base cols cv rD sv vs Ds n){i:Nat}{u sv2:υ}{n2:Int}{vs2:List υ}{Ds2:List (List (List aD))}(t:(#[cv,sv,ι κ n]:Array υ).setIfInBounds i u=#[cv,sv2,ι κ n2])(p:wr.ownsRow base 265 1 sv2 Ds2.length vs2)(m:qj wr cols vs2 Ds2)(r:∀d,sv2.ownBlock=σ d->rD.ownBlock=σ d\/w.heap.size<=d)(f:sv2.ownBlock≠σ q)(g:jO (kY q sv2) cv)(j:∀u∈vs2,jO (kY q sv2) u)(o:∀u∈vs2,jO Z u) :
 oY Z w (wr.setCell (Ad q i) u) q base cols cv rD sv2 vs2 Ds2 n2:=by
 have k:∀a,a<wr.heap.size->¬kY q sv2 a->(wr.setCell (Ad q i) u).heap[a]?=wr.heap[a]?:=λa _ s=>ay _ _ _ _ (show a≠q fromλc=>s (.inl c));have l:wr.heap.size<=(wr.setCell (Ad q i) u).heap.size:=by simp[World.setCell]
 refine⟨?_,bu.moves b.Ji g l k,dH p (grownBy_setCell wr (Ad q i) u) (λx e c=>by cases e;exact f c),m.moves j l k,r,f,g,j,b.keep.setCell (λe=>e.2 (.inl rfl)) _,b.lq,o,b.zin⟩;rw[<- t];exact aN wr q i _ _ u b.eW
theorem oY.WL(b:oY Z w wr q base cols cv rD sv vs Ds n){x:List (List aD)}(T:D5 wr m l)(U:jO (kY q sv) m)(ac:jO Z m)(W:WC (cols.map (·.2)) (bh cols.length x) l)(V:0<l.length)
 (bS:i.ownsRow base 265 1 (ψ (σ (Ad p 0)) (Ds.length+1) t) (Ds.length+1) (vs++[m])) (k:wr.grownBy i sv.ownBlock) (y:sv.ownBlock=σ p\/wr.heap.size<=p) (Y:0<cols.length) :
 oY Z w (i.setCell (Ad q 1) (ψ (σ (Ad p 0)) (Ds.length+1) t)) q base cols cv rD (ψ (σ (Ad p 0)) (Ds.length+1) t) (vs++[m]) (Ds++[x]) n/\i.heap[q]?=σ (ξ #[cv,sv,ι κ n] 205 (0,0)):=by
 have hq:=aw b.eW;have G:=k.size;have O:p≠q:=(by rcases y with a|a;{intro B;exact b.off (by rw[a,B])};omega);have old:∀c,c<wr.heap.size->¬kY q sv c->i.heap[c]?=wr.heap[c]?:=λc f r=>k.block c f (λa=>r (.inr a.symm));have N:i.heap[q]?=σ (ξ #[cv,sv,ι κ n] 205 (0,0)):=(k.block q hq (λa=>b.off a.symm)).trans b.eW;have P:∀c,kY q (ψ (σ (Ad p 0)) (Ds.length+1) t) c->kY q sv c\/wr.heap.size<=c:=(by rintro c (a|a);{exact .inl (.inl a)};simp[Value.ownBlock]at a;subst a;exact y.imp .inr id);have K:jO (kY q (ψ (σ (Ad p 0)) (Ds.length+1) t)) cv:=λo g x s E=>by
  rcases P _ E with a|a
  . exact b.Mr o g x s a
  . have:=bu.inside b.Ji Y o g x s;omega
 have I:∀j∈vs++[m],jO (kY q (ψ (σ (Ad p 0)) (Ds.length+1) t)) j:=by
  intro j d o g A s E;rw[bP,bj]at d;rcases P _ E with a|a
  {rcases d with d|rfl;{exact b.JU j d o g A s a};exact U o g A s a};rcases d with d|rfl;{obtain⟨u,z⟩:=dz d;have D:=(aj.mp z).1;have yo:u<Ds.length:=(by rw[<- b.sq.1];exact D);obtain⟨H,F,C⟩:=b.sq.2 u j Ds[u] z (af yo);have ab:0<H.length:=(by have:=C.1;rw[aQ]at this;omega);have:=bu.inside F ab o g A s;omega};have:=bu.inside T V o g A s;omega
 have X:qj i cols (vs++[m]) (Ds++[x]):=(by refine⟨by simp[b.sq.1],λu j aa f r=>?_⟩;by_cases z:u<Ds.length;{rw[cw (by rw[b.sq.1];exact z)]at f;rw[cw z]at r;obtain⟨H,F,C⟩:=b.sq.2 u j aa f r;exact⟨H,bu.moves F (b.JU j (aA f)) G old,C⟩};rw[bp (by rw[b.sq.1];omega),b.sq.1]at f;rw[bp (by omega)]at r;have D:=(aj.mp f).1;simp at D;have e0:u - Ds.length=0:=(by omega);rw[e0]at f r;cases f;cases r;exact⟨l,bu.moves T U G old,W⟩)
 refine⟨?_,N⟩;have yB:aX (λc=>c<w.heap.size/\¬kY q rD c) w i:=b.keep.trans ⟨k.os,k.tape,k.output,k.size,λc e=>k.block c (ai e.1 b.keep.size) (λa=>by
  rcases b.row c a.symm with B|B
  . exact e.2 (.inr B)
  . exact absurd e.1 (by omega))⟩
 have Q:∀c,c<i.heap.size->¬kY q (ψ (σ (Ad p 0)) (Ds.length+1) t) c->(i.setCell (Ad q 1) (ψ (σ (Ad p 0)) (Ds.length+1) t)).heap[c]?=i.heap[c]?:=λc _ y=>ay _ _ _ _ (show c≠q fromλa=>y (.inl a));have R:i.heap.size<=(i.setCell (Ad q 1) (ψ (σ (Ad p 0)) (Ds.length+1) t)).heap.size:=by simp[World.setCell]
 refine⟨aN i q 1 _ _ _ N,bu.moves (bu.moves b.Ji b.Mr G old) K R Q,dH (by rw[az];exact bS) (grownBy_setCell i (Ad q 1) _) (λg e a=>by cases e;simp[Value.ownBlock]at a;exact O a),X.moves I R Q,λg e=>?_,by simp[Value.ownBlock];exact O,K,I,yB.setCell (λe=>e.2 (.inl rfl)) _,b.lq,λj d=>by
  rw[bP,bj]at d;rcases d with d|rfl
  . exact b.zap j d
  . exact ac,b.zin⟩
 simp[Value.ownBlock]at e;subst e;rcases y with a|a
 {exact b.row p a};have:=b.keep.size;exact .inr (by omega)
end
theorem rO{w:ω}{v:υ}{L:List (List aD)}{b:List aD}(c:eC w v L)(a:L[0]?=σ b):Calls prog 94 #[v] w λf w'=>f=τ (ι κ b.length)/\w'=w:=by
 obtain⟨i,m,g,o,rfl,j,e,d⟩:=c.Mk a;have k:(0:Int)<L.length:=by have:=(aj.mp a).1;omega
 obtain⟨p,l,rfl⟩:=bu.slice d;rw[lQ]at e;clear c a d;go_in;go_wp2_with fail;go_ret;exact⟨rfl,rfl⟩
def Ms(w:ω)(va:Option Addr)(j:Nat)(u:υ):Prop:=∃g o u0,va=σ ⟨g,o,ν⟩/\w.cell? ⟨g,o+j,ν⟩=σ u0/\∀M,jO M u0->jO M u
def yX(w w':ω)(v v':υ)(L L':List (List aD)):Prop:=∀M:Nat->Prop,(∀x,M x->x<w.heap.size)->ik M w v L->ik M w' v' L'
theorem OA{w:ω}{v:υ}{L:List (List aD)}{a b:Nat}(l:eC w v L)(F7:a<b)(T:∀c∈L,b<=c.length)(h5:L.length<=1000):Calls prog 156 #[v,ι κ a,ι κ b] w λam w'=>∃Y,am=τ Y/\yX w w' v Y L (R8 a b L)/\δ w.heap.size w w':=by
 obtain⟨i0,yG,W,X,V⟩:=iC Tryz.pB;have HV:=l;have HC:=ak T;obtain⟨va,dq,k⟩:=l.slice;subst k;clear l T;go_in;go_wp2_with(at_make;refine dV _ rfl _ _ 152 rfl w.heap.size 230 i0 _ 1 underlying152 yG W X _ _ _ _ L.length rfl rfl rfl rfl (by rw[V];omega) (by unfold maxLen;omega) (by simp) ?_;intro w1 x O);rw[lS,sZ]at x;have gq:Hid (δ w.heap.size w w1):=ak ((ah _ _).grown O (ae _) (by simp));have HO:=x;clear x O yG W X V;go_wp2_with fail;go_loopw[14] (λc wr=>∃(d:Nat) (vs:List υ),d<=L.length/\c=ι κ d/\vs.length=d/\Hid (wr.ownsRow w.heap.size 230 1 (ψ (σ ⟨w.heap.size,0,ν⟩) L.length L.length) L.length (vs++List.replicate (L.length - d) sL))/\Hid (∀(e:Nat) (g:υ) (c:List aD),vs[e]?=σ g->L[e]?=σ c->mW w g (JR a b c)/\Ms w va e g)/\Hid (δ w.heap.size w wr)) (λc _=>L.length - (intOf c).toNat);case atStart=>exact⟨0,[],aK _,rfl,rfl,by rw[oA,dW];exact HO,ak (λe g c A=>by simp at A),gq⟩
 case round=>
  obtain⟨d,vs,hi,rfl,u,K,N,t⟩:=hrel;by_cases P:d<L.length;{have ju:(d:Int)<L.length:=(by omega);obtain⟨c,r⟩:∃c,L[d]?=σ c:=⟨L[d],af P⟩;have yu:=HC.J c (aA r);obtain⟨o,s,ap,g,k,Ou,y,p⟩:=HV.Mk r;cases k;have c0:=(t.J.cell (p:=⟨o,s+d,ν⟩) Ou).trans y;obtain⟨aa,U⟩:∃aa,c[a]?=σ aa:=⟨c[a]'(by omega),af _⟩;obtain⟨z,H,j,rfl,-⟩:=p.get U;have LP:c.length<=j:=(by rcases p.2 with⟨hz,-⟩|⟨_,_,_,l,D,-⟩;{omega};cases l;exact D);have ab:=ak (show mW w (ψ (σ ⟨z,H+a*3,ν⟩) (b - a) (j - a)) (JR a b c)/\Ms w (σ ⟨o,s,ν⟩) d (ψ (σ ⟨z,H+a*3,ν⟩) (b - a) (j - a))from⟨p.cut F7 yu,o,s,_,rfl,y,λM A al n c F C=>by cases F;exact A _ _ _ rfl C⟩);have jF:(b:Int)<=c.length:=(by omega);have ao:(b:Int)<=j:=(by omega);have an:(a:Int)<=b:=(by omega);have ac:=ak r;have m:=K.J;have fz:=m.frozenAt d;have d1:=m.cellAt d (by omega);rw[bp (by omega),df,aF (by omega)]at d1;have G:=(m.stored d (ψ (σ ⟨z,H+a*3,ν⟩) (b - a) (j - a))).1;rw[CL u P]at G;have tD:=G;clear r p U m y G;go_wp2_with fail;refine⟨⟨d+1,vs++[_],by omega,by go_num,by simp[u],tD,ak (λe g c i B=>?_),ak (t.J.setCell (ae _) _)⟩,by simp[intOf];omega⟩;rw[iz]at i;split at i;{exact N.J e g c i B};have f:e=d:=(by have:=(aj.mp i).1;simp at this;omega);subst f;rw[u,da]at i;cases i;rw[ac.J]at B;cases B;exact ab.J}
  obtain rfl:d=L.length:=by omega
  have E:=K.J;rw[da,dP,bQ]at E;have HR:Hid (yX w wr (ψ va L.length dq) (ψ (σ ⟨w.heap.size,0,ν⟩) L.length L.length) L (R8 a b L)):=ak (by
   rintro M hM ⟨-,pZ,r1,r2⟩;refine⟨λal n c F C=>by cases F;have:=hM _ C;simp at this,vs,by unfold R8;rw[aQ];exact bu.eY E,λe c f=>?_⟩;unfold R8 at f;rw[aV]at f
   cases hc:L[e]? with
   |none=>rw[hc]at f;cases f
   |some Q=>
     rw[hc]at f
     cases f
     have RE:=(aj.mp hc).1;obtain⟨k1,o,s,u0,k,ad,D⟩:=N.J e _ Q (af (by omega)) hc;obtain⟨u',e1,-,e3⟩:=r2 e Q hc;obtain⟨g',o',Ao,I,-,-,hx⟩:=r1.at (by omega);rw[k]at I
     cases I
     have R:=hx e u' e1;rw[ad]at R
     cases R
     exact⟨vs[e],af (by omega),bu.below k1 t.J (ae _),D M e3⟩)
  clear E;go_wp2_with fail;go_ret;exact⟨_,rfl,HR.J,t.J⟩
theorem Xp{w:ω}{v:υ}{L:List (List aD)}(k:eC w v L)(h5:L.length<=1000):Calls prog 156 #[v,ι κ 0,ι κ 0] w λT w'=>∃D C,T=τ D/\w'.ownsRow w.heap.size 230 1 D L.length C/\(∀c∈C,∃e b,c=ψ e 0 b)/\δ w.heap.size w w':=by
 obtain⟨Q,E,z,A,y⟩:=iC Tryz.pB;have H:=ak k;obtain⟨va,dq,i⟩:=k.slice;subst i;clear k;go_in;go_wp2_with(at_make;refine dV _ rfl _ _ 152 rfl w.heap.size 230 Q _ 1 underlying152 E z A _ _ _ _ L.length rfl rfl rfl rfl (by rw[y];omega) (by unfold maxLen;omega) (by simp) ?_;intro W f r);rw[lS,sZ]at f;have O:Hid (δ w.heap.size w W):=ak ((ah _ _).grown r (ae _) (by simp));have F:=ak f;clear f r E z A y;go_wp2_with fail;go_loopw[14] (λb wr=>∃(a:Nat) (vs:List υ),a<=L.length/\b=ι κ a/\vs.length=a/\Hid (∀c∈vs,∃e b,c=ψ e 0 b)/\Hid (wr.ownsRow w.heap.size 230 1 (ψ (σ ⟨w.heap.size,0,ν⟩) L.length L.length) L.length (vs++List.replicate (L.length - a) sL))/\Hid (δ w.heap.size w wr)) (λb _=>L.length - (intOf b).toNat);case atStart=>exact⟨0,[],aK _,rfl,rfl,ak (by simp),by rw[oA,dW];exact F,O⟩
 case round=>
  obtain⟨a,vs,hi,rfl,m,o,p,l⟩:=hrel;by_cases s:a<L.length
  .have ju:(a:Int)<L.length:=(by omega);obtain⟨b,B⟩:∃b,L[a]?=σ b:=⟨L[a],af s⟩;obtain⟨N,R,aa,c,i,I,t,u⟩:=H.J.Mk B;cases i;have Y:=(l.J.cell (p:=⟨N,R+a,ν⟩) I).trans t;obtain⟨V,nt,rfl⟩:=bu.slice u;have d:=p.J;have fz:=d.frozenAt a;have K:=d.cellAt a (by omega);rw[bp (by omega),df,aF (by omega)]at K;have U:=ak (λc=>(show(wr.setCell ⟨w.heap.size,a,ν⟩ c).ownsRow w.heap.size 230 1 (ψ (σ ⟨w.heap.size,0,ν⟩) L.length L.length) L.length ((vs++[c])++List.replicate (L.length - (a+1)) sL)from by have x:=(d.stored a c).1;rw[CL m s]at x;exact x));clear B u d t;rcases V with _|X
   all_goals
    go_wp2_with fail;exact⟨⟨a+1,vs++[_],by omega,by go_num,by simp[m],ak (λc P=>by
     rcases bP.mp P with g|g
     . exact o.J c g
     . rw[bj.mp g];exact⟨_,_,rfl⟩),ak (U.J _),ak (l.J.setCell (ae _) _)⟩,by simp[intOf];omega⟩
  obtain rfl:a=L.length:=(by omega);have j:=p.J;rw[da,dP,bQ]at j;have G:=ak j;clear j;go_wp2_with fail;go_ret;exact⟨_,vs,rfl,G.J,o.J,l.J⟩
theorem SP{w:ω}{B:Nat}{v:υ}{L:List (List aD)}(d:w.ownsRow B 230 1 v L.length x)(g:∀i∈x,∃f c,i=ψ f 0 c):eC w v (L.map λ_=>[]):=
 ⟨x,by rw[aQ];exact bu.eY d,λb c a=>by
  rw[aV]at a;have e:b<L.length:=by
   cases hc:L[b]? with
   |none=>rw[hc]at a;cases a
   |some j=>exact(aj.mp hc).1
  rw[af e]at a
  cases a
  have k:x.length=L.length:=by have:=d.1;omega
  exact⟨x[b]'(by omega),af (by omega),rfl,.inl ⟨rfl,g _ (cF _)⟩⟩⟩
