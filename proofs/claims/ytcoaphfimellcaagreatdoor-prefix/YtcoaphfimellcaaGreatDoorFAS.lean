import Derived.Test.YtcoaphfimellcaaGreatDoorFAR
import Derived.Test.YtcoaphfimellcaaGreatDoorFAD
set_option maxHeartbeats 0
set_option maxRecDepth 100000
namespace Go.Proofs.YtcoaphfimellcaaGreatDoor
open Go.RowKit
open _root_.Go.Proofs.Tryz
open Option renaming some→σ,none→ν
open Go.IntKind renaming i64→κ
open Go.Ending renaming returned→τ
open Go renaming World→ω,Value→υ
open Go.RowKit renaming Below→δ
open Go.Value renaming int→ι,string→θ,slice→ψ
variable{p t u:Nat}{m s:υ}{x:List υ}{l:List ByteArray}{i:ω}{r:ByteArray}
namespace S
theorem QJ(i c:Int)(a:List Cl)(bs:List Nat)(w:ω)(j:Lays bs (pV i c a))(p:a.length<=64)(d:wC i c a=true)(g:∀b∈a,cR b.n) :
 Calls prog 154 #[θ (strOf bs)] w λl w'=>(∃v,l=τ (.tuple #[ι κ c,v,ι κ 0])/\w'.ownsRow w.heap.size 229 3 v a.length (bJ a))/\δ w.heap.size w w':=by
 unfold wC at d;simp only[Bool.and_eq_true,decide_eq_true_eq]at d;obtain⟨s,m,t,u,A⟩:=UJ j d.1.1 d.1.2 d.2.1.1 d.2.1.2 p g d.2.2;have C:(strOf bs).size<=140737488351232:=(by rw[UF,j.len];have o:(pV i c a).length<=24+20000:=(by have f:∀b∈a,zN b:=λb e=>EZ (zO (g b e) (eV.1 d.2.2 b e));unfold pV body;simp only[List.length_append,bP];have D:=IY c a f;have G:=sN c a f;have H:=sN c (pA a) (λb e=>f b (I6 e));have I:=DJ a;have K:=wA (pA a) a;have x:=Xe (pA a).length (by omega);have N:a.length*pw (pA a).length<=64*8:=lL p x;have k:=A2 g;have y:=nC (Hp k);have O:=zS (a.any λb=>b.null) c (leastOf (dT a)) (bitLen (od (dT a))) a y (λb e=>(f b e).2);have E:=nC (zL (uM k));split;{omega};split;{unfold x8;simp only[List.length_append,bP];omega};split;{unfold x9;simp only[List.length_append,List.length_cons,List.length_nil];have F:(if c=1 then([]:List Bool)else qc (leastOf (dT a))++bitsOf (bitLen (od (dT a))) 7).length<=100:=(by split;{simp};rw[aw,wy,bP];omega);omega};omega);omega);refine(UK (strOf bs) w C).mono ?_;rintro l P ⟨o,z⟩;refine⟨?_,z⟩;rcases o with⟨_,v,rfl,r⟩|⟨B,_⟩
 {rw[s,m,t,u]at r;exact⟨v,by rw[m],r⟩};exact absurd A B
end S
def wD(c:aB):S.Cl:=⟨c.null,c.n,c.s⟩
theorem acV(a:List aB):S.bJ (a.map wD)=bJ a:=by induction a with|nil=>rfl|cons b a d=>have c:S.bJ ((b::a).map wD)=[.bool b.null,ι κ b.n,θ b.s]++S.bJ (a.map wD):=rfl;rw[c,d];rfl
def Lq(k:Nat)(c:aB):Prop:=S.cR c.n/\S.okB k (wD c)=true
def Zi(k:Nat)(l:List aB):Prop:=∀c∈l,Lq k c
def Txt(k:Nat)(col:List aB)(s:ByteArray):Prop:=k<=2/\col.length<=64/\Zi k col/\∃(bs:List Nat) (p:Int),0<=p/\p<=3/\S.Lays bs (S.pV p k (col.map wD))/\s=S.strOf bs
theorem Xj{a:List aB}(c:Zi p a):(a.map wD).all (S.okB p)=true:=by rw[eV];intro f d;obtain⟨b,e,rfl⟩:=cI.mp d;exact(c b e).2
theorem acW{b:List aB}(d:Zi p b):∀a∈b.map wD,S.cR a.n:=by intro a e;obtain⟨c,f,rfl⟩:=cI.mp e;exact(d c f).1
theorem UL{a:List aB}(f:Txt p a r)(w:ω):Calls prog 154 #[θ r] w λb w'=>∃v,b=τ (.tuple #[ι κ p,v,ι κ 0])/\w'.ownsRow w.heap.size 229 3 v a.length (bJ a)/\δ w.heap.size w w':=by obtain⟨m,i,c,bs,j,k,l,e,rfl⟩:=f;refine(S.QJ j p (a.map wD) bs w e (by simpa using i) (by unfold S.wC;rw[Xj c];simp;omega) (acW c)).mono ?_;rintro b w' ⟨⟨v,rfl,d⟩,g⟩;rw[acV,aR]at d;exact⟨v,rfl,d,g⟩
theorem Jg{a:aB}(b:Lq p a):a.s.size<=12:=(S.EZ (S.zO (c:=wD a) b.1 b.2)).2
theorem acX{f:Int}{a:List aB}{v:υ}{w:ω}(x:0<=f)(y:f<=3)(Q:p<=2)(z:a.length<=64)(m:Zi p a)(l:nF w v a):Calls prog 184 #[ι κ f,ι κ p,v] w λb w'=>∃j,b=τ (.tuple #[θ j,ι κ 0])/\Txt p a j/\δ w.heap.size w w':=by
 have T:∀d∈a.map wD,d.s.size<=140737488351232:=λd l=>by
  obtain⟨t,g,rfl⟩:=cI.mp l;have:=Jg (m t g);exact ag this (by decide)
 have D:∀(c:Option Addr) (k r e:Nat),v=ψ c a.length e->(0<(a.map wD).length->c=σ ⟨k,r,ν⟩)->S.nD w k r (a.map wD)->a.length<=e->Calls prog 184 #[ι κ f,ι κ p,v] w λb w'=>∃j,b=τ (.tuple #[θ j,ι κ 0])/\Txt p a j/\δ w.heap.size w w':=(by rintro c k r e rfl O N G;have:=S.Mh f p (a.map wD) c k r e w O N (by simpa using G) (by simpa using z) (acW m) T x y (by omega) (by omega) (Xj m);rw[aR]at this;refine this.mono ?_;rintro b w' ⟨⟨bs,F,rfl⟩,P⟩;exact⟨_,rfl,⟨Q,z,m,bs,f,x,y,F,rfl⟩,P⟩);rcases l.2 with⟨B,c,d,o⟩|⟨u,E,e,o,R,-,V⟩;{have b:a=[]:=dC B;refine D c 0 0 d (by rw[o,B]) (λs=>by simp[b]at s) (λC d s=>by simp[b]at s) (by omega)};refine D (σ ⟨u,E,ν⟩) u E e o (λ_=>rfl) (λC d i=>?_) R;rw[aU]at i;cases g:a[C]? with|none=>rw[g]at i;cases i|some t=>rw[g]at i;cases i;obtain⟨U,W,X,A,H,I,K⟩:=nF.get l g;rw[o]at A;cases A;exact⟨H,I,K⟩
abbrev tV:Value:=.slice none 0 0
structure rH (w:ω)(base:Nat)(vs:List υ)(L:List (List aB)):Prop where
 len:vs.length=L.length
 own:∀(i:Nat) (u:υ) (c:List aB),vs[i]?=σ u->L[i]?=σ c->w.ownsRow base 229 3 u c.length (bJ c)
 apart:∀(i j:Nat) (u u':υ) (g:Nat),i≠j->vs[i]?=σ u->vs[j]?=σ u'->u.ownBlock=σ g->u'.ownBlock≠σ g
section
variable {w w':ω} {base:Nat} {vs:List υ} {L:List (List aB)}
theorem rH.at(e:rH w base vs L){a:Nat}{d:υ}(f:vs[a]?=σ d):∃b,L[a]?=σ b/\w.ownsRow base 229 3 d b.length (bJ b):=by have c:=(aj.mp f).1;rw[e.len]at c;exact⟨L[a],af c,e.own a d _ f (af c)⟩
theorem rH.lt(a:rH w base vs L){g:Nat}(c:vs[p]?=σ m)(b:m.ownBlock=σ g):base<=g/\g<w.heap.size:=by obtain⟨e,-,d⟩:=a.at c;exact d.lt g b
theorem rH.below(a:rH w base vs L)(e:δ w.heap.size w w'):rH w' base vs L:=⟨a.len,λf g b c d=>ct (a.own f g b c d) e,a.apart⟩
theorem rH.kept(d:rH w base vs L){row:Option Nat}(j:w.grownBy w' row)(g:∀(b:Nat) (a:υ) (c:Nat),row=σ c->vs[b]?=σ a->a.ownBlock≠σ c):rH w' base vs L:=
 ⟨d.len,λb a f e i=>dV (d.own b a f e i) j (λc k=>g b a c k e),d.apart⟩
theorem rH.set(o:rH w base vs L){i:List aB}(u:w'.ownsRow base 229 3 m i.length (bJ i))(t:∀(c:Nat) (d:υ) (y:List aB),c≠p->vs[c]?=σ d->L[c]?=σ y->w'.ownsRow base 229 3 d y.length (bJ y))(r:∀(c:Nat) (d:υ) (g:Nat),c≠p->vs[c]?=σ d->m.ownBlock=σ g->d.ownBlock≠σ g):rH w' base (vs.set p m) (L.set p i):=by refine⟨by simp[o.len],λc d y b a=>?_,λc l d y g k b a j=>?_⟩;{rw[bI]at b a;by_cases e:p=c;{subst e;rw[aF rfl]at b a;split at b;{split at a;{cases b;cases a;exact u};cases a};cases b};rw[aE e]at b a;exact t c d y (λf=>e f.symm) b a};rw[bI]at b a;by_cases e:p=c;{subst e;rw[aF rfl]at b;rw[aE k]at a;split at b;{cases b;exact r l y g (λf=>k f.symm) a j};cases b};rw[aE e]at b;by_cases s:p=l;{subst s;rw[aF rfl]at a;split at a;{cases a;intro f;exact r c d g (λf=>e f.symm) b f j};cases a};rw[aE s]at a;exact o.apart c l d y g k b a j
theorem rH.cells(c:rH w base vs L){a:List aB}(d:L[p]?=σ a):∃e,vs[p]?=σ e/\nF w e a:=by have b:=(aj.mp d).1;rw[<- c.len]at b;exact⟨vs[p],af b,bz.fM (c.own p _ a (af b) d)⟩
theorem UM(w:ω)(base n:Nat):rH w base (List.replicate n tV) (List.replicate n []):=by refine⟨by simp,λd e f a b=>?_,λd i e j g _ a b c=>?_⟩;{rw[dy]at a b;split at a;{rw[aF (by assumption)]at b;cases a;cases b;exact iJ _ _ _ _};cases a};rw[dy]at a;split at a;{cases a;cases c};cases a
end
structure gZ (w:ω)(base:Nat)(v:υ)(vs:List υ)(L:List (List aB)):Prop where
 row:w.ownsRow base 230 1 v L.length vs
 each:rH w base vs L
 off:∀(i:Nat) (u:υ) (g:Nat),vs[i]?=σ u->u.ownBlock=σ g->v.ownBlock≠σ g
theorem gZ.batch{w:ω}{base:Nat}{v:υ}{vs:List υ}{L:List (List aB)}(a:gZ w base v vs L):fl w v L:=⟨vs,bz.fM a.row,λ_ _ b=>a.each.cells b⟩
def E4(w:ω)(v:υ)(ss:List ByteArray):Prop:=bz w 1 v ss.length (ss.map .string)
theorem E4.get{w:ω}{v:υ}(e:E4 w v l)(d:l[p]?=σ r):∃a b c,v=ψ (σ ⟨a,b,ν⟩) l.length c/\w.cell? ⟨a,b+p,ν⟩=σ (θ r):=by obtain⟨a,b,c,f,-,-,g⟩:=bz.at e (dF (aI _) (aj.mp d).1);exact⟨a,b,c,f,g p _ (by rw[aU,d];rfl)⟩
def Zj(ks:List Nat)(L:List (List aB))(ss:List ByteArray):Prop:=ks.length=ss.length/\L.length=ss.length/\∀(i:Nat) (k:Nat) (c:List aB) (s:ByteArray),ks[i]?=σ k->L[i]?=σ c->ss[i]?=σ s->Txt k c s
theorem Tryz.qd:(prog.info? 230).map (λa=>(a.zero,a.size,a.bytes))=σ (σ (ψ ν 0 0),1,24):=by kernel_rfl
theorem uo(n:Nat):(madeCells (Value.slice ν 0 0).cells n).toList=List.replicate n tV:=by have:=AV (f:=λa:υ=>[a]) (k:=1) (λ_=>rfl) tV tV rfl (by decide) n;simpa using this
def DQ(L:List (List aB))(i:Nat):List (List aB):=L.take i++List.replicate (L.length - i) []
theorem E5(L:List (List aB))(a:p<=L.length):(DQ L p).length=L.length:=by simp[DQ];omega
theorem Zk{L:List (List aB)}{a:List aB}(b:L[p]?=σ a):(DQ L p).set p a=DQ L (p+1):=by
 have⟨d,e⟩:=aj.mp b;unfold DQ;have c:(L.take p).length=p:=by simp;omega
 rw[show L.length - p=(L.length - (p+1))+1 by omega,iE,eM _ _ (by omega),c,du,ei,dx,b];simp
theorem gZ.put{w j:ω}{base n:Nat}{vs:List υ}{L:List (List aB)}{i:Nat}{u:υ}{k:List aB}(e:gZ w base (ψ (σ ⟨p,0,ν⟩) n t) vs L)(r:L.length=n)(l:δ w.heap.size w j)(s:j.ownsRow w.heap.size 229 3 u k.length (bJ k))(B:base<=w.heap.size):gZ (j.setCell ⟨p,i,ν⟩ u) base (ψ (σ ⟨p,0,ν⟩) n t) (vs.set i u) (L.set i k):=by have o:=ct e.row l;rw[r]at o;have D:=(e.row.lt p rfl).2;have A:=(o.stored i u).1;have x:=grownBy_setCell j ⟨p,i,ν⟩ u;have m:∀b,u.ownBlock=σ b->w.heap.size<=b:=λb c=>(s.lt b c).1;refine⟨by rw[nU,r];exact A,(e.each.below l).set (dV (fj s B) x (λb c d=>?_)) (λf g C z a y=>dV ((e.each.below l).own f g C a y) x (λb c d=>?_)) (λf g b z a c d=>?_),λf g b a c d=>?_⟩;{cases c;have:=m p d;omega};{cases c;exact e.off f g p a d rfl};{have:=(e.each.lt a d).2;have:=m b c;omega};rw[bI]at a;split at a;{split at a;{cases a;have:=m b c;simp[Value.ownBlock]at d;omega};cases a};exact e.off f g b a c d
theorem DR{w:ω}{v:υ}{o:List Nat}{L:List (List aB)}(x:E4 w v l)(u:Zj o L l)(h5:l.length<=1000):Calls prog 124 #[v] w λz w'=>∃v vs,z=τ v/\gZ w' w.heap.size v vs L/\δ w.heap.size w w':=by
 have⟨T,zr,W,X,Y⟩:=jc Tryz.qd;have H:=x;have r:=u;have⟨va,dG,k⟩:=bz.slice x;subst k;have c:=u.2.1;go_in;go_wp2_with(at_make;refine eI _ rfl _ _ 152 rfl w.heap.size 230 T _ 1 underlying152 zr W X _ _ _ _ l.length rfl rfl rfl rfl (by rw[Y];omega) (by unfold maxLen;omega) (by simp) ?_;intro A t P);rw[mD,uo]at t;have O:δ w.heap.size w A:=(ah _ _).grown P (ae _) (by simp);have F:Hid (gZ A w.heap.size (ψ (σ ⟨w.heap.size,0,ν⟩) l.length l.length) (List.replicate l.length tV) (DQ L 0)):=au ⟨by rw[E5 L (aI _),c];exact t,by unfold DQ;rw[lK,o8,dP,c];exact UM _ _ _,λa aa Q g R=>by
  rw[dy]at g;split at g
  . cases g;cases R
  . cases g⟩
 have U:=O;go_wp2;go_loopw[10] (λb wr=>∃(a:Nat) (vs:List υ),a<=l.length/\b=ι κ a/\Hid (gZ wr w.heap.size (ψ (σ ⟨w.heap.size,0,ν⟩) l.length l.length) vs (DQ L a))/\Hid (δ w.heap.size w wr)) (λb _=>l.length - (intOf b).toNat);case atStart=>exact⟨0,_,aI _,rfl,F,U⟩
 case round=>obtain⟨a,vs,hi,rfl,i,e⟩:=hrel;by_cases s:a<l.length;{have jY:(a:Int)<l.length:=(by omega);obtain⟨p,C⟩:∃p,l[a]?=σ p:=⟨l[a],af s⟩;obtain⟨b,y⟩:∃b,L[a]?=σ b:=⟨L[a],af (by omega)⟩;obtain⟨m,I⟩:∃m,o[a]?=σ m:=⟨o[a]'(by rw[r.1];exact s),af _⟩;have⟨Q,ac,ab,k,c0⟩:=E4.get (bz.below H e.J (ae _)) C;cases k;have G:=UL (r.2.2 a m b p I y C) wr;have N:=au y;go_wp2_with fail;refine G.mono ?_;rintro z w2 ⟨aa,rfl,d,j⟩;have D:=i.J.put (i:=a) (E5 L (by omega) |>.trans c) j d e.J.size;rw[Zk N.J]at D;have E:=D;have V:=e.J.trans (j.mono e.J.size);have f:=ct i.J.row j;rw[E5 L (by omega),c]at f;have fz:=f.frozenAt a;obtain⟨B,hx⟩:∃B,w2.cell? ⟨w.heap.size,a,ν⟩=σ B:=(by have:=f.cellAt a (by omega);rw[this,af (by have:=f.1;omega)];exact⟨_,rfl⟩);obtain⟨ua,nQ,rfl,-,-⟩:=cu d;go_wp2;go_roundw;(case rel=>exact⟨a+1,_,by omega,by go_num,E,au (V.setCell (ae _) _)⟩);case measure=>simp[intOf];omega};obtain rfl:a=l.length:=(by omega);have d:=i.J;unfold DQ at d;rw[<- c,du,eU,eo,bX]at d;have K:=au d;go_wp2;go_ret;exact⟨_,_,rfl,by rw[<- c];exact K.J,e.J⟩
def Lr(a b:Nat)(c:List aB):List aB:=(c.drop a).take (b - a)
def UN(a b:Nat)(L:List (List aB)):List (List aB):=L.map (Lr a b)
theorem acY{a:Nat}{b:List aB}(c:p<=b.length):(Lr a p b).length=p - a:=by simp[Lr];omega
theorem UO{a:List aB}(g:u<(t - p)*3)(i:t<=a.length):(bJ (Lr p t a))[u]?=(bJ a)[p*3+u]?:=by
 have f:u / 3<t - p:=by omega
 obtain⟨b,e⟩:∃b,a[p+u / 3]?=σ b:=⟨a[p+u / 3]'(by omega),af _⟩;have c:=ek ph 3 rQ (Lr p t a) (i:=u / 3) (a:=b) (by unfold Lr;rw[gi,aF f,jg];exact e) (j:=u % 3) (by omega);have d:=ek ph 3 rQ a e (j:=u % 3) (by omega);rw[show u / 3*3+u % 3=u by omega]at c;rw[show(p+u / 3)*3+u % 3=p*3+u by omega]at d;exact c.trans d.symm
theorem nF.cut{w:ω}{n:Nat}{c:List aB}{a b:Nat}(g:nF w (ψ (σ ⟨p,t,ν⟩) n u) c)(m:a<b)(d:b<=c.length):nF w (ψ (σ ⟨p,t+a*3,ν⟩) (b - a) (u - a)) (Lr a b c):=by
 have f:=acY (a:=a) d;refine⟨by unfold bJ;rw[sE ph 3 rQ],.inr ?_⟩;rcases g.2 with⟨s,-⟩|⟨o,x,y,j,r,i,k⟩
 {omega};cases j;refine⟨p,t+a*3,u - a,by rw[f],by omega,i,λl e=>?_⟩;rw[f]at e;rw[UO e d,<- k (a*3+l) (by omega)];congr 2;omega
theorem fl.Og{w:ω}{v:υ}{d:List (List aB)}(i:fl w v d){f:List aB}(g:d[p]?=σ f):∃a c e b,v=ψ (σ ⟨a,c,ν⟩) d.length e/\a<w.heap.size/\w.cell? ⟨a,c+p,ν⟩=σ b/\nF w b f:=by obtain⟨vs,j,k⟩:=i;obtain⟨b,l,m⟩:=k p f g;obtain⟨a,c,e,r,-,o,s⟩:=j.at (dF (aI _) (aj.mp g).1);exact⟨a,c,e,b,r,o,s p b l,m⟩
theorem DS{n:Nat}{vs:List υ}(a:vs.length=p)(b:p<n):(vs++List.replicate (n - p) s).set p m=(vs++[m])++List.replicate (n - (p+1)) s:=by rw[show n - p=(n - (p+1))+1 by omega,iE,eM _ _ (by omega),a,du,ei];simp
theorem Tryz.QK:(prog.info? 9).map (λa=>(a.zero,a.size,a.bytes))=σ (σ (θ ⟨#[]⟩),1,16):=by kernel_rfl
theorem bf{a:υ}{t:TypeId}(b:i.heap[p]?=σ (.cells #[m,s,a] t (0,0))):i.cell? ⟨p,0,ν⟩=σ m/\i.cell? ⟨p,1,ν⟩=σ s/\i.cell? ⟨p,2,ν⟩=σ a:=by simp[World.cell?,b]
theorem Zl(n:Nat):(madeCells (Value.string ⟨#[]⟩).cells n).toList=List.replicate n (θ ⟨#[]⟩):=by have:=AV (f:=λa:υ=>[a]) (k:=1) (λ_=>rfl) (θ ⟨#[]⟩) (θ ⟨#[]⟩) rfl (by decide) n;simpa using this
theorem UQ{w:ω}{q:Nat}{n:Int}{cv sv:υ}{cols:List bu}{L:List (List aB)}{p:Int}(C:w.heap[q]?=σ (.cells #[cv,sv,ι κ n] 205 (0,0)))(A:eT w cv cols)(E:fl w m L)(Q:L.length=cols.length)(o:∀b∈cols,b.2<=2)(T:∀(a:Nat) (u:List aB) (c:bu),L[a]?=σ u->cols[a]?=σ c->Zi c.2 u)(U:∀u∈L,u.length<=64)(h0:0<=p)(f:p<=3)(h5:L.length<=1000) :
 Calls prog 283 #[.pointer (σ ⟨q,0,ν⟩),m,ι κ p] w λaa w'=>∃v d,aa=τ v/\w'.ownsRow w.heap.size 9 1 v d.length (d.map .string)/\Zj (cols.map (·.2)) L d/\δ w.heap.size w w':=by
 have⟨i0,zr,W,X,Y⟩:=jc Tryz.QK;have HT:=au C;have HC:=A;have HV:=E;have HF:=au T;have HK:=au o;have HL:=au U;have KM:=ay C;have⟨ca,jd,j⟩:=A.slice;subst j;have⟨va,dG,j⟩:=E.slice;subst j;have y:=au Q;clear E A C T o U Q;go_in;go_wp2_with(at_make;refine eI _ rfl _ _ 265 rfl w.heap.size 9 i0 _ 1 underlying265 zr W X _ _ _ _ L.length rfl rfl rfl rfl (by rw[Y];omega) (by unfold maxLen;omega) (by simp) ?_;intro w1 z O);rw[mD,Zl]at z;have iC:Hid (δ w.heap.size w w1):=au ((ah _ _).grown O (ae _) (by simp));have HO:=z;clear z O zr W X Y;go_wp2;go_loopw[14] (λb wr=>∃(a:Nat) (d:List ByteArray),a<=L.length/\b=ι κ a/\d.length=a/\Hid (wr.ownsRow w.heap.size 9 1 (ψ (σ ⟨w.heap.size,0,ν⟩) L.length L.length) L.length (d.map .string++List.replicate (L.length - a) (θ ⟨#[]⟩)))/\Hid (∀(g:Nat) (c:bu) (b:List aB) (i:ByteArray),cols[g]?=σ c->L[g]?=σ b->d[g]?=σ i->Txt c.2 b i)/\Hid (δ w.heap.size w wr)) (λb _=>L.length - (intOf b).toNat);case atStart=>exact⟨0,[],aI _,rfl,rfl,by rw[o8,mB,dP];exact HO,au (λg ab b i h e k=>by simp at k),iC⟩
 case round=>
  obtain⟨a,d,hi,rfl,r,I,H,l⟩:=hrel;by_cases K:a<L.length;{have jY:(a:Int)<L.length:=(by omega);have ap:(a:Int)<cols.length:=(by have:=y.J;omega);obtain⟨b,t⟩:∃b,L[a]?=σ b:=⟨L[a],af K⟩;obtain⟨c,s⟩:∃c,cols[a]?=σ c:=⟨cols[a]'(by have:=y.J;omega),af _⟩;have⟨an,ao,aq,ab,j,QL,P,D⟩:=HV.Og t;cases j;have c0:=(l.J.cell (p:=⟨an,ao+a,ν⟩) QL).trans P;have R:nF wr.drew ab b:=bz.below D (aH l.J) (ae _);have⟨kg,ko,gg,j,k0,k1⟩:=eT.get (HC.below l.J (ae _)) s;cases j;have⟨t0,t1,t2⟩:=bf ((l.J.block q KM).trans HT.J);have HP:=acX (w:=wr.drew) h0 f (HK.J c (aA s)) (HL.J b (aA t)) (HF.J a b c t s) R;have⟨ua,nQ,j⟩:=bz.slice D;subst j;have Xk:=au t;have ac:=au s;clear t s D P R;go_wp2_with fail;go_region_with(go_at_call 184;refine HP.mono ?_;rintro aa w2 ⟨i,rfl,V,N⟩;have F:=(aH (ah wr.heap.size wr)).trans N;have x:=ct I.J F;have fz:=x.frozenAt a;have d1:=x.cellAt a (by omega);rw[bp (by simp;omega),dy,aF (by simp;omega)]at d1;have G:=(x.stored a (θ i)).1;rw[DS (by simp[r]) K]at G;have uG:=au G;have al:=au V;have oI:=au (l.J.trans (F.mono l.J.size));clear N F x G V);all_goals (try go_wp2_with fail);refine⟨⟨a+1,d++[i],by omega,by go_num,by simp[r],by rw[cZ];exact uG,au (λg c b i e k f=>?_),au (oI.J.setCell (ae _) _)⟩,by simp[intOf];omega⟩;rw[jq]at f;split at f;{exact H.J g c b i e k f};have hj:g=a:=(by have:=(aj.mp f).1;simp at this;omega);subst hj;rw[r,du]at f;cases f;rw[Xk.J]at k;rw[ac.J]at e;cases k;cases e;exact al.J}
  obtain rfl:a=L.length:=by omega
  have B:=I.J;rw[du,eo,bX]at B;have HR:=B;have ad:Hid (Zj (cols.map (·.2)) L d):=au ⟨by rw[aR,r];exact y.J.symm,r.symm,λg c b i e k f=>by
   rw[aU]at e
   cases o:cols[g]? with
   |none=>rw[o]at e;cases e
   |some am=>rw[o]at e;cases e;exact H.J g am b i o k f⟩
  clear B;go_wp2;go_ret;exact⟨_,d,rfl,by rw[r];exact HR,ad.J,l.J⟩
theorem Zo(n:Nat):(madeCells (Value.int κ 0).cells n).toList=List.replicate n (ι κ 0):=by have:=AV (f:=λa:υ=>[a]) (k:=1) (λ_=>rfl) (ι κ 0) (ι κ 0) rfl (by decide) n;simpa using this
theorem DT(n:Nat)(C:n<=1000)(w:ω):Calls prog 119 #[ι κ n] w λx w'=>∃v,x=τ v/\w'.ownsRow w.heap.size 3 1 v n ((List.range n).map nr)/\δ w.heap.size w w':=by
 obtain⟨p,A,s,t,u⟩:=jc Tryz.wU;go_in;go_wp2_with(at_make;refine eI _ rfl _ _ 36 rfl w.heap.size 3 p _ 1 underlying36 A s t _ _ _ _ n rfl rfl rfl rfl (by rw[u];omega) (by unfold maxLen;omega) (by simp) ?_;intro z e m);rw[mD,Zo]at e;have r:Hid (δ w.heap.size w z):=au ((ah _ _).grown m (ae _) (by simp));have j:=au e;go_wp2_with fail;go_loopw[9] (λb wr=>∃a:Nat,a<=n/\b=ι κ a/\Hid (wr.ownsRow w.heap.size 3 1 (ψ (σ (Ad w.heap.size 0)) n n) n ((List.range a).map nr++List.replicate (n - a) (ι κ 0)))/\Hid (δ w.heap.size w wr)) (λb _=>n - (intOf b).toNat);case atStart=>exact⟨0,aI _,rfl,by simpa using j,r⟩
 case round=>obtain⟨a,B,rfl,d,i⟩:=hrel;by_cases l:a<n;{have D:(a:Int)<n:=(by omega);have c:=d.J;have fz:=c.frozenAt a;have o:=c.cellAt a (by omega);rw[bp (by simp),dy,aF (by simp;omega)]at o;have g:=(c.stored a (ι κ a)).1;rw[DS (by simp) l]at g;have y:=au (show(wr.setCell (Ad w.heap.size a) (ι κ a)).ownsRow w.heap.size 3 1 (ψ (σ (Ad w.heap.size 0)) n n) n ((List.range (a+1)).map nr++List.replicate (n - (a+1)) (ι κ 0))from by rw[tG,cZ];exact g);go_wp2_with fail;exact⟨⟨a+1,by omega,by go_num,y,au (i.J.setCell (ae _) _)⟩,by simp[intOf];omega⟩};obtain rfl:a=n:=(by omega);have f:=d.J;rw[du,eo,bX]at f;have k:=au f;go_wp2_with fail;go_ret;exact⟨_,rfl,k.J,i.J⟩
theorem dX.set{ok:List aB->Prop}{a:List aB->dm}(f:dX i p s ok a)(r:t<p):dX (i.setCell (Ad t u) m) p s ok a:=by obtain⟨n,e,o,l,k⟩:=f;refine⟨n,e,o,l,λd b=>k d ⟨?_,λc g j=>?_⟩⟩;{have:=b.1;simpa[World.setCell]using this};exact(b.2 c g (by simpa[World.setCell]using j)).trans (az _ _ _ _ (show c≠t by omega))
theorem Jh{w:ω}{q:Nat}{n:Int}{cv sv:υ}{cols:List bu}(m:w.heap[q]?=σ (obN cv sv n))(Q:eT w cv cols)(h5:cols.length<=5)(ok:List aB->Prop) :
 Calls prog 90 #[.pointer (σ (Ad q 0))] w λd w'=>∃v i B,d=τ (.agg #[v,i])/\ia w' v (List.range cols.length)/\dX w' B i ok (λ_=>.inl (pY 1))/\w.heap.size<B/\δ w.heap.size w w':=by
 obtain⟨X,jd,R⟩:=Q.slice;subst R;have r:δ w.heap.size w (w.alloc (obR ν 0 0 .nilFunc)):=(ah _ _).alloc (ae _) _;obtain⟨t0,t1,t2⟩:=bf ((r.block q (ay m)).trans m);have W:=ay m;have F:=au (ak w (obR ν 0 0 .nilFunc));go_in;go_wp2_with fail;refine(DT cols.length (by omega) _).mono ?_;rintro d e ⟨v,rfl,o,u⟩;obtain⟨t,l,rfl,-,-⟩:=cu o;have C:=r.trans (u.mono r.size);have E:=zV (w:=e) (lo:=e.heap.size) (fv:=.func (.func 121) #[] #[]) (ok:=ok) (G:=λ_=>pY 1) ⟨_,_,rfl,call121,λb c G Y d _ _ _=>apU G d b⟩ (ae _);have j:=au ((u.block _ (by simp)).trans F.J);go_wp2_with fail;refine E.mono ?_;rintro d w2 ⟨i,rfl,y,k⟩;have s:=(k.block _ (ay j.J)).trans j.J;obtain⟨T,U⟩:=aS s;have z0:=fP s 0;have z1:=fP s 1;have V:=C.trans (k.mono C.size);have p:w.heap.size<e.heap.size:=ay j.J;have D:=au (λf b=>(show δ w.heap.size w ((w2.setCell (Ad w.heap.size 0) f).setCell (Ad w.heap.size 1) b)/\ia ((w2.setCell (Ad w.heap.size 0) f).setCell (Ad w.heap.size 1) b) (ψ t cols.length l) (List.range cols.length)/\dX ((w2.setCell (Ad w.heap.size 0) f).setCell (Ad w.heap.size 1) b) e.heap.size i ok (λ_=>.inl (pY 1))from by
  refine⟨(V.setCell (ae _) _).setCell (ae _) _,?_,(y.set p).set p⟩;have N:=ct o k;have x:∀a,(Value.slice t cols.length l).ownBlock=σ a->a≠w.heap.size:=λa c g=>by have:=(o.lt a c).1;simp at this;omega
  have O:=dV N (grownBy_setCell w2 (Ad w.heap.size 0) f) (λa c g=>x a g (by cases c;rfl));have P:=dV O (grownBy_setCell _ (Ad w.heap.size 1) b) (λa c g=>x a g (by cases c;rfl));have:=bz.fM P;unfold ia;rw[dj];exact this))
 obtain⟨z,A,rfl,-⟩:=y;have aa:=jz z A;go_wp2_with fail;refine aD (by simp[results,results90,go_sem,T,U];rfl) rfl ?_;obtain⟨H,I,K⟩:=D.J (ψ t cols.length l) (.func (.func z) #[] A);exact⟨_,_,e.heap.size,rfl,I,K,p,H⟩
def uP(F S:List (List aB)):List (List aB):=(F.zip S).map λp=>p.1++p.2
theorem Ml{c S:List (List aB)}{a b:List aB}(d:c[p]?=σ a)(e:S[p]?=σ b):(uP c S)[p]?=σ (a++b):=by unfold uP;rw[aU,List.getElem?_zip_eq_some (z:=(a,b)) |>.mpr ⟨d,e⟩];rfl
theorem qs{a S:List (List aB)}(b:a.length=S.length):(uP a S).length=a.length:=by simp[uP];omega
def ie(F S:List (List aB))(i:Nat):List (List aB):=(uP F S).take i++F.drop i
theorem CA{a S:List (List aB)}{b c:List aB}(d:a[p]?=σ b)(g:S[p]?=σ c)(f:a.length=S.length):(ie a S p).set p (b++c)=ie a S (p+1):=by
 have⟨e,k⟩:=aj.mp d;have i:=Ml d g;have j:((uP a S).take p).length=p:=by rw[bV,qs f];omega
 unfold ie;rw[cE e,eM _ _ (by omega),j,du,ei,dx,i];simp
theorem yh{a S:List (List aB)}(b:a.length=S.length)(c:p<=a.length):(ie a S p).length=a.length:=by unfold ie;rw[aw,bV,qs b,bW];omega
theorem CB{a S:List (List aB)}(b:a.length=S.length)(d:p<a.length):(ie a S p)[p]?=a[p]?:=by
 have c:((uP a S).take p).length=p:=by rw[bV,qs b];omega
 unfold ie;rw[bp (by omega),c,du,jg,iZ]
theorem Zp{d:List aB}:∀c∈bJ d,c.oneCell'=true:=by intro c a;unfold bJ at a;rw[List.mem_flatMap]at a;obtain⟨e,-,b⟩:=a;simp[ph]at b;rcases b with rfl|rfl|rfl<;>rfl
theorem Tryz.A6:(prog.info? 229).map (λa=>(a.zero,a.size,a.bytes))=σ (σ (.agg #[.bool false,ι κ 0,θ ⟨#[]⟩]),3,32):=by kernel_rfl
structure zY (w wr:ω)(base:Nat)(fv:υ)(vs:List υ)(F S:List (List aB))(o n i:Nat)(ms:List υ):Prop where
 first:wr.ownsRow base 230 1 fv F.length vs
 out:wr.ownsRow w.heap.size 230 1 (ψ (σ (Ad o 0)) n n) n (ms.take i++List.replicate (n - i) tV)
 rows:rH wr base ms (ie F S i)
 old:∀j,i<=j->ms[j]?=vs[j]?
 off:∀(j:Nat) (u:υ) (g:Nat),ms[j]?=σ u->u.ownBlock=σ g->fv.ownBlock≠σ g/\g≠o
 uk:δ base w wr
 al8:fv.ownBlock≠σ o
theorem take_set{d:Type}{a:List d}{n:Nat}{b c:d}(g:a.length=n)(f:p<n):(a.take p++List.replicate (n - p) c).set p b=(a.set p b).take (p+1)++List.replicate (n - (p+1)) c:=by
 have e:(a.take p).length=p:=by simp;omega
 rw[show n - p=(n - (p+1))+1 by omega,iE,eM _ _ (by omega),e,du,ei,dx,List.take_set,bI,aF rfl,aF (by omega),List.set_eq_of_length_le (by omega)];simp
theorem zY.drew{w wr:ω}{base:Nat}{vs:List υ}{b S:List (List aB)}{n:Nat}(a:zY w wr base m vs b S p n t x):zY w wr.drew base m vs b S p n t x:=⟨a.first,a.out,⟨a.rows.len,a.rows.own,a.rows.apart⟩,a.old,a.off,aH a.uk,a.al8⟩
theorem zY.next{w wr w3:ω}{base:Nat}{vs:List υ}{l S:List (List aB)}(b:zY w wr base m vs l S p l.length t x)(F:l.length=S.length){e f:List aB}(D:l[t]?=σ e)(O:S[t]?=σ f)(o:x[t]?=σ s){g cap:Nat}
 (N:w3.ownsRow base 229 3 (ψ (σ (Ad g 0)) (e.length+f.length) cap) (e.length+f.length) (bJ e++bJ f)) (z:wr.grownBy w3 s.ownBlock) (B:s.ownBlock=σ g\/g=wr.heap.size) (U:base<=p) :
 zY w (w3.setCell (Ad p t) (ψ (σ (Ad g 0)) (e.length+f.length) cap)) base m vs l S p l.length (t+1) (x.set t (ψ (σ (Ad g 0)) (e.length+f.length) cap))/\w3.cell? (Ad p t)=σ tV/\w3.frozen? (Ad p t)=false:=by
 have E:t<l.length:=(aj.mp D).1;have K:x.length=l.length:=by rw[b.rows.len,yh F (gJ E)]
 have X:=(b.out.lt p rfl).2;have I:g≠p:=(by rcases B with a|a;{exact(b.off t s g o a).2};omega);have R:m.ownBlock≠σ g:=(by rcases B with a|a;{exact(b.off t s g o a).1};intro y;have:=(b.first.lt g y).2;omega);have Q:∀d k,d≠t->x[d]?=σ k->k.ownBlock≠σ g:=by
  intro d k r G y;rcases B with a|a
  {exact b.rows.apart t d s k g (λa=>r a.symm) o G a y};have:=(b.rows.lt G y).2;omega
 have A:=dV b.out z (λj c a=>(b.off t s j o c).2 (by simpa[Value.ownBlock]using a.symm));have H:=(A.stored t (ψ (σ (Ad g 0)) (e.length+f.length) cap)).1;rw[take_set K E]at H;have C:=grownBy_setCell w3 (Ad p t) (ψ (σ (Ad g 0)) (e.length+f.length) cap);have P:bJ e++bJ f=bJ (e++f):=by simp[bJ]
 have T:w3.ownsRow base 229 3 (ψ (σ (Ad g 0)) (e.length+f.length) cap) (e++f).length (bJ (e++f)):=by rw[aw,<- P];exact N
 refine⟨⟨dV (dV b.first z (λj c a=>(b.off t s j o c).1 a)) C (λj c a=>by cases c;exact b.al8 a),H,?_,λd r=>?_,λd k j i u=>?_,?_,b.al8⟩,?_,A.frozenAt t⟩;{rw[<- CA D O F];refine b.rows.set (dV T C (λj c a=>by cases c;simp[Value.ownBlock]at a;exact I a)) (λd k V r i u=>dV (dV (b.rows.own d k V i u) z (λj c a=>b.rows.apart t d s k j (λa=>r a.symm) o i c a)) C (λj c a=>by cases c;exact(b.off d k p i a).2 rfl)) (λd k j r i c=>by simp[Value.ownBlock]at c;subst c;exact Q d k r i)};{rw[bI,aE (by omega)];exact b.old d (by omega)};{rw[bI]at i;split at i;{split at i;{cases i;simp[Value.ownBlock]at u;subst u;exact⟨R,I⟩};cases i};exact b.off d k j i u};{have W:=b.uk.size;refine(b.uk.grown z (by have:=b.out.lt p rfl;omega) (λj c=>(b.rows.lt o c).1)).setCell U _};rw[A.cellAt t (by omega),bp (by simp;omega),dy,aF (by simp;omega)]
def kI(M:Nat->Prop)(v:υ):Prop:=∀a n c,v=ψ (σ a) n c->¬M a.block
def je(M:Nat->Prop)(w:ω)(v:υ)(L:List (List aB)):Prop:=kI M v/\∃vs,bz w 1 v L.length vs/\∀(i:Nat) (c:List aB),L[i]?=σ c->∃u,vs[i]?=σ u/\nF w u c/\kI M u
theorem je.batch{M:Nat->Prop}{w:ω}{v:υ}{L:List (List aB)}(b:je M w v L):fl w v L:=by obtain⟨-,vs,c,d⟩:=b;exact⟨vs,c,λi a g=>by obtain⟨j,e,f,-⟩:=d i a g;exact⟨j,e,f⟩⟩
theorem UR{w:ω}{base:Nat}{sv:υ}{vs:List υ}{a S:List (List aB)}(k:gZ w base m vs a)(H:∀w',δ base w w'->fl w' sv S)(Y:a.length=S.length)(h5:a.length<=1000)(V:∀(b:Nat) (c e:List aB),a[b]?=σ c->S[b]?=σ e->0<e.length/\c.length+e.length<=1000)(K:base<=w.heap.size) :
 Calls prog 282 #[m,sv] w λan w'=>∃v,an=τ v/\je (·<base) w' v (uP a S)/\δ base w w':=by
 have⟨i0,zr,lU,lV,lk⟩:=jc Tryz.qd;have⟨j0,Oh,Oi,Oj,Ol⟩:=jc Tryz.A6;obtain⟨T,P,rfl,W,-⟩:=cu k.row;obtain⟨sa,mo,rfl⟩:=(H w (ah _ _)).slice;have HS:=au H;have i:=au Y;have HC:=au V;have ab:=au W;clear H Y V W;go_in;go_wp2_with(at_make;refine eI _ rfl _ _ 152 rfl w.heap.size 230 i0 _ 1 underlying152 zr lU lV _ _ _ _ a.length rfl rfl rfl rfl (by rw[lk];omega) (by unfold maxLen;omega) (by simp) ?_;intro w1 C R);rw[mD,uo]at C;have u:δ w.heap.size w w1:=(ah _ _).grown R (ae _) (by simp);have HJ:Hid (zY w w1 base (ψ T a.length P) vs a S w.heap.size a.length 0 vs):=au ⟨ct k.row u,by rw[lK,dP,o8];exact C,by have:=k.each.below u;unfold ie;rw[lK,dP,oN];exact this,λ_ _=>rfl,λf r E j o=>⟨k.off f r E j o,λg=>by have:=(k.each.lt j o).2;omega⟩,u.mono K,λg=>by have:=(k.row.lt _ g).2;omega⟩;clear C R u zr lU lV lk;go_wp2;go_loopw[12] (λl wr=>∃(b:Nat) (t:List υ),b<=a.length/\l=ι κ b/\Hid (zY w wr base (ψ T a.length P) vs a S w.heap.size a.length b t)) (λl _=>a.length - (intOf l).toNat);case atStart=>exact⟨0,vs,aI _,rfl,HJ⟩
 case round=>
  obtain⟨b,t,hi,rfl,N⟩:=hrel;by_cases Q:b<a.length;{have jY:(b:Int)<a.length:=(by omega);have ao:(b:Int)<S.length:=(by have:=i.J;omega);obtain⟨E,rfl,aq⟩:=ab.J (by omega);obtain⟨c,s⟩:∃c,a[b]?=σ c:=⟨a[b],af Q⟩;obtain⟨e,x⟩:∃e,S[b]?=σ e:=⟨S[b]'(by have:=i.J;omega),af _⟩;have⟨ny,FN⟩:=HC.J b c e s x;have d:=N.J;obtain⟨r,I,-⟩:=k.each.cells s;have A:t[b]?=σ r:=(d.old b (ae _)).trans I;have B:=d.rows.own b r c A ((CB i.J Q).trans s);obtain⟨ua,nQ,rfl,av,ap⟩:=cu B;have c0:wr.cell? (Ad E b)=σ (ψ ua c.length nQ):=(d.first.cellAt b (by omega)).trans I;have⟨sg,so,Ji,v,he,ar,s0,p⟩:=(HS.J wr d.uk).Og x;cases he;obtain⟨vg,vo,dG,rfl,ax,aC,aa⟩:=bz.at p ny;have al:Hid (wr.drew.ownsRow base 229 3 (ψ ua c.length nQ) c.length (bJ c)):=au B;have uQ:Hid (∀f z,(bJ e)[f]?=σ z->wr.drew.cell? (((Ad vg vo):Addr).add f)=σ z):=au (λf z h=>by have g:=aa f z h;cases f with|zero=>simpa[Addr.add]using g|succ f=>simpa[Addr.add]using g);have ad:=au (λ(F D:Nat) (y:ω) j (o:wr.drew.grownBy y _) h3=>d.drew.next i.J s x A (g:=F) (cap:=D) (w3:=y) j o h3 K);have am:=ag K (gJ (d.out.lt w.heap.size rfl).2);have O:(bJ e).length=e.length*3:=(by unfold bJ;exact sE ph 3 rQ e);have Om:=au O;clear d p B aa A I s x O;go_wp2_with fail;go_region_law(refine step_append_lies _ rfl (.tmp 20) (.tmp 24) 230 rfl base 229 j0 _ 3 32 underlying230 Oh Oi Oj Ol rfl (by decide) _ _ _ (by simp[Act.eval]) al.J (Ad vg vo) e.length dG (bJ e) (by simp[Act.eval]) Om.J uQ.J Zp ny (by unfold maxLen;omega) (by omega) am wr.heap.size rfl ?_;intro F D y nR jT vK _;have⟨U,d0,fz⟩:=ad.J F D y nR jT vK;have ac:=au U;clear U nR jT vK);all_goals (try go_wp2_with fail);go_roundw;(case rel=>exact⟨b+1,_,by omega,by go_num,ac⟩);case measure=>simp[intOf];omega}
  obtain rfl:b=a.length:=by omega
  have d:=N.J;have G:=d.out;have Mn:t.length=a.length:=by rw[d.rows.len,yh i.J (ae _)]
  rw[du,eo,bX,aL (by omega)]at G;have g:ie a S a.length=uP a S:=by unfold ie;rw[gB,bX,aL (by rw[qs i.J];exact ae _)]
  have HR:Hid (je (·<base) wr (ψ (σ (Ad w.heap.size 0)) a.length a.length) (uP a S)):=au ⟨λc n l p hm=>by cases p;simp at hm;omega,t,by rw[qs i.J];exact bz.fM G,λf l X=>by
   rw[<- g]at X;have⟨r,j,o⟩:=d.rows.cells X;exact⟨r,j,o,λc n l p hm=>by
    have:=(d.rows.lt (g:=c.block) j (by rw[p];rfl)).1;omega⟩⟩
  have HB:=d.uk;clear d G Mn g;go_wp2;go_ret;exact⟨_,rfl,HR.J,HB⟩
def bh(n:Nat)(R:List (List aB)):List (List aB):=(List.range n).map λj=>R.map λr=>r.getD j gp
theorem bE(n:Nat)(a:List (List aB)):(bh n a).length=n:=by simp[bh]
theorem Jj{n:Nat}{b:List (List aB)}{c:List aB}(a:(bh n b)[p]?=σ c):p<n/\c=b.map λf=>f.getD p gp:=by unfold bh at a;rw[aU]at a;cases hr:(List.range n)[p]? with|none=>rw[hr]at a;cases a|some g=>rw[hr]at a;cases a;obtain⟨d,e⟩:=aj.mp hr;simp at d e;subst e;exact⟨d,rfl⟩
theorem ig{n:Nat}{R:List (List aB)}(a:p<n):(bh n R)[p]?=σ (R.map λb=>b.getD p gp):=by unfold bh;rw[aU,fK a];rfl
theorem eR{n:Nat}{b:List (List aB)}{c:List aB}(a:c∈bh n b):c.length=b.length:=by unfold bh at a;rw[cI]at a;obtain⟨d,-,rfl⟩:=a;simp
theorem vL(n:Nat)(b c:List (List aB)):uP (bh n b) (bh n c)=bh n (b++c):=by apply cJ;intro d;by_cases a:d<n;{rw[Ml (ig a) (ig a),ig a,cZ]};rw[aZ (by rw[qs (by rw[bE,bE]),bE];omega),aZ (by rw[bE];omega)]
theorem uR(n a c:Nat)(b:List (List aB)):UN a c (bh n b)=bh n ((b.drop a).take (c - a)):=by apply cJ;intro e;unfold UN;by_cases d:e<n;{rw[aU,ig d,ig d];simp[Lr,List.map_drop,List.map_take]};rw[aZ (by rw[aR,bE];omega),aZ (by rw[bE];omega)]
def zZ(cols:List bu)(r:List aB):Prop:=r.length=cols.length/\∀(j:Nat) (c:aB) (k:bu),r[j]?=σ c->cols[j]?=σ k->Lq k.2 c
def fH(cols:List bu)(R:List (List aB)):Prop:=∀r∈R,zZ cols r
theorem ahv{cols:List bu}{c:List (List aB)}(i:fH cols c){d:List aB}{b:bu}(j:(bh cols.length c)[p]?=σ d)(k:cols[p]?=σ b):Zi b.2 d:=by
 obtain⟨m,rfl⟩:=Jj j;intro r l;obtain⟨a,o,rfl⟩:=cI.mp l;have e:=i a o;have f:p<a.length:=by rw[e.1];exact m
 have g:a[p]?=σ (a.getD p gp):=by simp[List.getD,List.getElem?_eq_getElem f]
 exact e.2 p _ b g k
def oe(S:Nat)(Cs:List (List (List aB))):Prop:=∀(i:Nat) (c:List (List aB)),Cs[i]?=σ c->0<c.length/\c.length<=S/\(i+1<Cs.length->c.length=S)
theorem oe.nil{S:Nat}:oe S []:=λc b a=>by simp at a
theorem oe.snoc{S:Nat}{b:List (List (List aB))}{c:List (List aB)}(e:∀d∈b,d.length=S)(l:0<S)(g:0<c.length)(i:c.length<=S):oe S (b++[c]):=by intro k d a;rw[jq]at a;split at a;{have:=e d (aA a);exact⟨by omega,by omega,λ_=>this⟩};have j:=(aj.mp a).1;simp at j;have f:k - b.length=0:=(by omega);rw[f]at a;cases a;exact⟨g,i,λe=>by simp at e;omega⟩
theorem wV{S:Nat}:∀{a:List (List (List aB))},(∀b∈a,b.length=S)->a.flatten.length=a.length*S
 |[],_=>by simp
 |b::l,h=>by
   rw[List.flatten_cons,aw,wV (λd c=>h d (by simp[c])),h b (by simp),aX,oM];omega
theorem oe.last{S:Nat}{d:List (List (List aB))}(g:oe S d):(d.flatten.length % S=0/\∀b∈d,b.length=S)\/∃Ds a,d=Ds++[a]/\(∀b∈Ds,b.length=S)/\0<a.length/\a.length<S/\d.flatten.length % S=a.length:=by
 rcases List.eq_nil_or_concat d with rfl|⟨Ds,a,rfl⟩;{exact .inl ⟨by simp,λb c=>by simp at c⟩}
 have e:∀b∈Ds,b.length=S:=(by intro b c;obtain⟨m,j⟩:=dK c;have l:=(aj.mp j).1;exact(g m b (by rw[lO,cD l];exact j)).2.2 (by simp;omega));have k:=g Ds.length a (by rw[lO,bp (ae _)];simp);have f:(Ds.concat a).flatten.length=Ds.length*S+a.length:=by rw[lO,jK,aw,wV e];simp
 by_cases i:a.length=S
 .refine .inl ⟨by rw[f,i,Nat.add_mod_right,Nat.mul_mod_left],λb c=>?_⟩;rw[lO,bn,a6]at c;rcases c with c|rfl
  {exact e b c};exact i
 refine .inr ⟨Ds,a,by rw[lO],e,k.1,by omega,?_⟩;rw[f,Nat.mul_add_mod_self_right];exact xv (by omega)
def qK(w:ω)(cols:List bu)(vs:List υ)(Cs:List (List (List aB))):Prop:=vs.length=Cs.length/\∀(i:Nat) (u:υ) (c:List (List aB)),vs[i]?=σ u->Cs[i]?=σ c->∃ss,E4 w u ss/\Zj (cols.map (·.2)) (bh cols.length c) ss
def lF(q:Nat)(sv:υ)(b:Nat):Prop:=b=q\/sv.ownBlock=σ b
theorem bz.moves{w w':ω}{size n:Nat}{v:υ}{M:Nat->Prop}(c:bz w size v n x)(o:kI M v)(r:w.heap.size<=w'.heap.size)(j:∀a,a<w.heap.size->¬M a->w'.heap[a]?=w.heap[a]?):bz w' size v n x:=by
 refine⟨c.1,?_⟩;rcases c.2 with i|⟨b,f,g,d,k,l,p⟩
 {exact .inl i};refine .inr ⟨b,f,g,d,k,by omega,λe m=>?_⟩;rw[<- p e m];exact cy (w:=w) (a:=(Ad b (f+e))) (j b l (o _ _ _ d))
section
variable {M M':Nat->Prop} {w w':ω} {v:υ} {L:List (List aB)}
theorem je.moves(g:je M w v L)(e:w.heap.size<=w'.heap.size)(d:∀a,a<w.heap.size->¬M a->w'.heap[a]?=w.heap[a]?):je M w' v L:=by obtain⟨b,vs,i,j⟩:=g;exact⟨b,vs,i.moves b e d,λo f m=>by obtain⟨p,k,l,c⟩:=j o f m;exact⟨p,k,bz.moves l c e d,c⟩⟩
theorem bz.inside{size n:Nat}(e:bz w size v n x)(l:0<n):∀a d b,v=ψ (σ a) d b->a.block<w.heap.size:=by
 intro a d b g;rcases e.2 with⟨k,-⟩|⟨j,m,i,c,-,f,-⟩
 {omega};rw[g]at c;cases c;exact f
theorem je.weaken(b:je M w v L)(k:∀e,M' e->M e\/w.heap.size<=e)(t:0<L.length)(s:∀a∈L,0<a.length):je M' w v L:=by
 obtain⟨m,vs,i,o⟩:=b;refine⟨λc n a d f=>?_,vs,i,λu a l=>?_⟩;{rcases k _ f with b|b;{exact m c n a d b};have:=i.inside t c n a d;omega}
 obtain⟨x,p,j,r⟩:=o u a l;refine⟨x,p,j,λc n g d f=>?_⟩;rcases k _ f with b|b
 {exact r c n g d b};have:=bz.inside j (s a (aA l)) c n g d;omega
end
theorem qK.moves{M:Nat->Prop}{w w':ω}{cols:List bu}{vs:List υ}{c:List (List (List aB))}(d:qK w cols vs c)(l:∀b∈vs,kI M b)(m:w.heap.size<=w'.heap.size)(k:∀a,a<w.heap.size->¬M a->w'.heap[a]?=w.heap[a]?):qK w' cols vs c:=
 ⟨d.1,λo b f e g=>by obtain⟨p,i,j⟩:=d.2 o b f e g;exact⟨p,bz.moves i (l b (aA e)) m k,j⟩⟩
theorem QO{w:ω}{base size n:Nat}{d:TypeId}{a:Option Addr}(b:w.ownsRow base d size (ψ a n t) n x)(c:p<=n)(m:0<n):w.ownsRow base d size (ψ a p t) p (x.take (p*size)):=by
 refine⟨by rw[bV,b.1];exact gx (gV _ c),?_⟩;rcases b.2 with⟨-,o⟩|⟨e,s,cur,l,k,j,r,f,g,i⟩
 {omega};cases l;refine .inr ⟨e,t,cur,rfl,k,j,by omega,f,g,?_⟩;rw[<- i,List.take_take,gx (gV _ c)]
structure pJ (Z:Nat->Prop)(w wr:ω)(q base:Nat)(cols:List bu)(cv sy sv:υ)(vs:List υ)(Ds:List (List (List aB)))(n:Int):Prop where
 fQ:wr.heap[q]?=σ (.cells #[cv,sv,ι κ n] 205 (0,0))
 KR:eT wr cv cols
 own:wr.ownsRow base 265 1 sv Ds.length vs
 tC:qK wr cols vs Ds
 row:∀g,sv.ownBlock=σ g->sy.ownBlock=σ g\/w.heap.size<=g
 off:sv.ownBlock≠σ q
 On:kI (lF q sv) cv
 Lt:∀u∈vs,kI (lF q sv) u
 keep:aY (λb=>b<w.heap.size/\¬lF q sy b) w wr
 lq:q<w.heap.size
 zap:∀u∈vs,kI Z u
 zin:∀b,Z b->b<w.heap.size
section
variable {Z:Nat->Prop} {w wr w2:ω} {q base:Nat} {cols:List bu} {cv sy sv:υ} {vs:List υ} {Ds:List (List (List aB))} {n:Int}
theorem pJ.below(a:pJ Z w wr q base cols cv sy sv vs Ds n)(b:δ wr.heap.size wr w2):pJ Z w w2 q base cols cv sy sv vs Ds n:=
 ⟨(b.block q (ay a.fQ)).trans a.fQ,a.KR.below b (ae _),ct a.own b,a.tC.moves a.Lt b.size (λc d _=>b.block c d),a.row,a.off,a.On,a.Lt,a.keep.trans ⟨b.os,b.tape,b.output,b.size,λc e=>b.block c (ai e.1 a.keep.size)⟩,a.lq,a.zap,a.zin⟩
theorem pJ.put(b:pJ Z w wr q base cols cv sy sv vs Ds n){i:Nat}{u sv2:υ}{n2:Int}{vs2:List υ}{Ds2:List (List (List aB))}(t:(#[cv,sv,ι κ n]:Array υ).setIfInBounds i u=#[cv,sv2,ι κ n2])(p:wr.ownsRow base 265 1 sv2 Ds2.length vs2)(m:qK wr cols vs2 Ds2)(r:∀d,sv2.ownBlock=σ d->sy.ownBlock=σ d\/w.heap.size<=d)(f:sv2.ownBlock≠σ q)(g:kI (lF q sv2) cv)(j:∀u∈vs2,kI (lF q sv2) u)(o:∀u∈vs2,kI Z u) :
 pJ Z w (wr.setCell (Ad q i) u) q base cols cv sy sv2 vs2 Ds2 n2:=by
 have k:∀a,a<wr.heap.size->¬lF q sv2 a->(wr.setCell (Ad q i) u).heap[a]?=wr.heap[a]?:=λa _ s=>az _ _ _ _ (show a≠q fromλc=>s (.inl c));have l:wr.heap.size<=(wr.setCell (Ad q i) u).heap.size:=by simp[World.setCell]
 refine⟨?_,bz.moves b.KR g l k,dV p (grownBy_setCell wr (Ad q i) u) (λx e c=>by cases e;exact f c),m.moves j l k,r,f,g,j,b.keep.setCell (λe=>e.2 (.inl rfl)) _,b.lq,o,b.zin⟩;rw[<- t];exact aQ wr q i _ _ u b.fQ
theorem pJ.Zr(b:pJ Z w wr q base cols cv sy sv vs Ds n){x:List (List aB)}(T:E4 wr m l)(U:kI (lF q sv) m)(ad:kI Z m)(X:Zj (cols.map (·.2)) (bh cols.length x) l)(za:0<l.length)
 (cj:i.ownsRow base 265 1 (ψ (σ (Ad p 0)) (Ds.length+1) t) (Ds.length+1) (vs++[m])) (k:wr.grownBy i sv.ownBlock) (y:sv.ownBlock=σ p\/wr.heap.size<=p) (aa:0<cols.length) :
 pJ Z w (i.setCell (Ad q 1) (ψ (σ (Ad p 0)) (Ds.length+1) t)) q base cols cv sy (ψ (σ (Ad p 0)) (Ds.length+1) t) (vs++[m]) (Ds++[x]) n/\i.heap[q]?=σ (.cells #[cv,sv,ι κ n] 205 (0,0)):=by
 have hq:=ay b.fQ;have G:=k.size;have O:p≠q:=(by rcases y with a|a;{intro B;exact b.off (by rw[a,B])};omega);have old:∀c,c<wr.heap.size->¬lF q sv c->i.heap[c]?=wr.heap[c]?:=λc f r=>k.block c f (λa=>r (.inr a.symm));have N:i.heap[q]?=σ (.cells #[cv,sv,ι κ n] 205 (0,0)):=(k.block q hq (λa=>b.off a.symm)).trans b.fQ;have P:∀c,lF q (ψ (σ (Ad p 0)) (Ds.length+1) t) c->lF q sv c\/wr.heap.size<=c:=(by rintro c (a|a);{exact .inl (.inl a)};simp[Value.ownBlock]at a;subst a;exact y.imp .inr id);have K:kI (lF q (ψ (σ (Ad p 0)) (Ds.length+1) t)) cv:=λo g x s E=>by
  rcases P _ E with a|a
  . exact b.On o g x s a
  . have:=bz.inside b.KR aa o g x s;omega
 have I:∀j∈vs++[m],kI (lF q (ψ (σ (Ad p 0)) (Ds.length+1) t)) j:=by
  intro j d o g A s E;rw[bn,a6]at d;rcases P _ E with a|a
  {rcases d with d|rfl;{exact b.Lt j d o g A s a};exact U o g A s a};rcases d with d|rfl;{obtain⟨u,z⟩:=dK d;have D:=(aj.mp z).1;have W:u<Ds.length:=(by rw[<- b.tC.1];exact D);obtain⟨H,F,C⟩:=b.tC.2 u j Ds[u] z (af W);have ac:0<H.length:=(by have:=C.1;rw[aR]at this;omega);have:=bz.inside F ac o g A s;omega};have:=bz.inside T za o g A s;omega
 have Y:qK i cols (vs++[m]) (Ds++[x]):=(by refine⟨by simp[b.tC.1],λu j ab f r=>?_⟩;by_cases z:u<Ds.length;{rw[cD (by rw[b.tC.1];exact z)]at f;rw[cD z]at r;obtain⟨H,F,C⟩:=b.tC.2 u j ab f r;exact⟨H,bz.moves F (b.Lt j (aA f)) G old,C⟩};rw[bp (by rw[b.tC.1];omega),b.tC.1]at f;rw[bp (by omega)]at r;have D:=(aj.mp f).1;simp at D;have e0:u - Ds.length=0:=(by omega);rw[e0]at f r;cases f;cases r;exact⟨l,bz.moves T U G old,X⟩)
 refine⟨?_,N⟩;have V:aY (λc=>c<w.heap.size/\¬lF q sy c) w i:=b.keep.trans ⟨k.os,k.tape,k.output,k.size,λc e=>k.block c (ai e.1 b.keep.size) (λa=>by
  rcases b.row c a.symm with B|B
  . exact e.2 (.inr B)
  . exact absurd e.1 (by omega))⟩
 have Q:∀c,c<i.heap.size->¬lF q (ψ (σ (Ad p 0)) (Ds.length+1) t) c->(i.setCell (Ad q 1) (ψ (σ (Ad p 0)) (Ds.length+1) t)).heap[c]?=i.heap[c]?:=λc _ y=>az _ _ _ _ (show c≠q fromλa=>y (.inl a));have R:i.heap.size<=(i.setCell (Ad q 1) (ψ (σ (Ad p 0)) (Ds.length+1) t)).heap.size:=by simp[World.setCell]
 refine⟨aQ i q 1 _ _ _ N,bz.moves (bz.moves b.KR b.On G old) K R Q,dV (by rw[aw];exact cj) (grownBy_setCell i (Ad q 1) _) (λg e a=>by cases e;simp[Value.ownBlock]at a;exact O a),Y.moves I R Q,λg e=>?_,by simp[Value.ownBlock];exact O,K,I,V.setCell (λe=>e.2 (.inl rfl)) _,b.lq,λj d=>by
  rw[bn,a6]at d;rcases d with d|rfl
  . exact b.zap j d
  . exact ad,b.zin⟩
 simp[Value.ownBlock]at e;subst e;rcases y with a|a
 {exact b.row p a};have:=b.keep.size;exact .inr (by omega)
end
theorem sQ{w:ω}{v:υ}{L:List (List aB)}{b:List aB}(c:fl w v L)(a:L[0]?=σ b):Calls prog 94 #[v] w λf w'=>f=τ (ι κ b.length)/\w'=w:=by
 obtain⟨i,m,g,o,rfl,j,e,d⟩:=c.Og a;have k:(0:Int)<L.length:=by have:=(aj.mp a).1;omega
 obtain⟨p,l,rfl⟩:=bz.slice d;rw[iZ]at e;clear c a d;go_in;go_wp2_with fail;go_ret;exact⟨rfl,rfl⟩
def Oo(w:ω)(va:Option Addr)(j:Nat)(u:υ):Prop:=∃g o u0,va=σ ⟨g,o,ν⟩/\w.cell? ⟨g,o+j,ν⟩=σ u0/\∀M,kI M u0->kI M u
def Ab(w w':ω)(v v':υ)(L L':List (List aB)):Prop:=∀M:Nat->Prop,(∀x,M x->x<w.heap.size)->je M w v L->je M w' v' L'
theorem QP{w:ω}{v:υ}{L:List (List aB)}{a b:Nat}(l:fl w v L)(FN:a<b)(T:∀c∈L,b<=c.length)(h5:L.length<=1000):Calls prog 156 #[v,ι κ a,ι κ b] w λam w'=>∃Y,am=τ Y/\Ab w w' v Y L (UN a b L)/\δ w.heap.size w w':=by
 obtain⟨i0,zr,V,W,X⟩:=jc Tryz.qd;have HV:=l;have HC:=au T;obtain⟨va,dG,k⟩:=l.slice;subst k;clear l T;go_in;go_wp2_with(at_make;refine eI _ rfl _ _ 152 rfl w.heap.size 230 i0 _ 1 underlying152 zr V W _ _ _ _ L.length rfl rfl rfl rfl (by rw[X];omega) (by unfold maxLen;omega) (by simp) ?_;intro w1 x P);rw[mD,uo]at x;have iC:Hid (δ w.heap.size w w1):=au ((ah _ _).grown P (ae _) (by simp));have HO:=x;clear x P zr V W X;go_wp2_with fail;go_loopw[14] (λc wr=>∃(d:Nat) (vs:List υ),d<=L.length/\c=ι κ d/\vs.length=d/\Hid (wr.ownsRow w.heap.size 230 1 (ψ (σ ⟨w.heap.size,0,ν⟩) L.length L.length) L.length (vs++List.replicate (L.length - d) tV))/\Hid (∀(e:Nat) (g:υ) (c:List aB),vs[e]?=σ g->L[e]?=σ c->nF w g (Lr a b c)/\Oo w va e g)/\Hid (δ w.heap.size w wr)) (λc _=>L.length - (intOf c).toNat);case atStart=>exact⟨0,[],aI _,rfl,rfl,by rw[o8,dP];exact HO,au (λe g c A=>by simp at A),iC⟩
 case round=>
  obtain⟨d,vs,hi,rfl,u,K,N,t⟩:=hrel;by_cases O:d<L.length;{have jY:(d:Int)<L.length:=(by omega);obtain⟨c,r⟩:∃c,L[d]?=σ c:=⟨L[d],af O⟩;have Bz:=HC.J c (aA r);obtain⟨o,s,ap,g,k,QL,y,p⟩:=HV.Og r;cases k;have c0:=(t.J.cell (p:=⟨o,s+d,ν⟩) QL).trans y;obtain⟨aa,U⟩:∃aa,c[a]?=σ aa:=⟨c[a]'(by omega),af _⟩;obtain⟨z,H,j,rfl,-⟩:=p.get U;have NS:c.length<=j:=(by rcases p.2 with⟨hz,-⟩|⟨_,_,_,l,D,-⟩;{omega};cases l;exact D);have ab:=au (show nF w (ψ (σ ⟨z,H+a*3,ν⟩) (b - a) (j - a)) (Lr a b c)/\Oo w (σ ⟨o,s,ν⟩) d (ψ (σ ⟨z,H+a*3,ν⟩) (b - a) (j - a))from⟨p.cut FN Bz,o,s,_,rfl,y,λM A al n c F C=>by cases F;exact A _ _ _ rfl C⟩);have kN:(b:Int)<=c.length:=(by omega);have ao:(b:Int)<=j:=(by omega);have an:(a:Int)<=b:=(by omega);have ac:=au r;have m:=K.J;have fz:=m.frozenAt d;have d1:=m.cellAt d (by omega);rw[bp (by omega),dy,aF (by omega)]at d1;have G:=(m.stored d (ψ (σ ⟨z,H+a*3,ν⟩) (b - a) (j - a))).1;rw[DS u O]at G;have uG:=G;clear r p U m y G;go_wp2_with fail;refine⟨⟨d+1,vs++[_],by omega,by go_num,by simp[u],uG,au (λe g c i B=>?_),au (t.J.setCell (ae _) _)⟩,by simp[intOf];omega⟩;rw[jq]at i;split at i;{exact N.J e g c i B};have f:e=d:=(by have:=(aj.mp i).1;simp at this;omega);subst f;rw[u,du]at i;cases i;rw[ac.J]at B;cases B;exact ab.J}
  obtain rfl:d=L.length:=by omega
  have E:=K.J;rw[du,eo,bX]at E;have HR:Hid (Ab w wr (ψ va L.length dG) (ψ (σ ⟨w.heap.size,0,ν⟩) L.length L.length) L (UN a b L)):=au (by
   rintro M hM ⟨-,qC,r1,r2⟩;refine⟨λal n c F C=>by cases F;have:=hM _ C;simp at this,vs,by unfold UN;rw[aR];exact bz.fM E,λe c f=>?_⟩;unfold UN at f;rw[aU]at f
   cases hc:L[e]? with
   |none=>rw[hc]at f;cases f
   |some Q=>
     rw[hc]at f
     cases f
     have Us:=(aj.mp hc).1;obtain⟨k1,o,s,u0,k,ad,D⟩:=N.J e _ Q (af (by omega)) hc;obtain⟨u',e1,-,e3⟩:=r2 e Q hc;obtain⟨g',o',Bu,I,-,-,hx⟩:=r1.at (by omega);rw[k]at I
     cases I
     have R:=hx e u' e1;rw[ad]at R
     cases R
     exact⟨vs[e],af (by omega),bz.below k1 t.J (ae _),D M e3⟩)
  clear E;go_wp2_with fail;go_ret;exact⟨_,rfl,HR.J,t.J⟩
theorem ZT{w:ω}{v:υ}{L:List (List aB)}(k:fl w v L)(h5:L.length<=1000):Calls prog 156 #[v,ι κ 0,ι κ 0] w λT w'=>∃D C,T=τ D/\w'.ownsRow w.heap.size 230 1 D L.length C/\(∀c∈C,∃e b,c=ψ e 0 b)/\δ w.heap.size w w':=by
 obtain⟨P,E,y,z,A⟩:=jc Tryz.qd;have H:=au k;obtain⟨va,dG,i⟩:=k.slice;subst i;clear k;go_in;go_wp2_with(at_make;refine eI _ rfl _ _ 152 rfl w.heap.size 230 P _ 1 underlying152 E y z _ _ _ _ L.length rfl rfl rfl rfl (by rw[A];omega) (by unfold maxLen;omega) (by simp) ?_;intro W f s);rw[mD,uo]at f;have Q:Hid (δ w.heap.size w W):=au ((ah _ _).grown s (ae _) (by simp));have F:=au f;clear f s E y z A;go_wp2_with fail;go_loopw[14] (λb wr=>∃(a:Nat) (vs:List υ),a<=L.length/\b=ι κ a/\vs.length=a/\Hid (∀c∈vs,∃e b,c=ψ e 0 b)/\Hid (wr.ownsRow w.heap.size 230 1 (ψ (σ ⟨w.heap.size,0,ν⟩) L.length L.length) L.length (vs++List.replicate (L.length - a) tV))/\Hid (δ w.heap.size w wr)) (λb _=>L.length - (intOf b).toNat);case atStart=>exact⟨0,[],aI _,rfl,rfl,au (by simp),by rw[o8,dP];exact F,Q⟩
 case round=>
  obtain⟨a,vs,hi,rfl,m,o,p,l⟩:=hrel;by_cases r:a<L.length
  .have jY:(a:Int)<L.length:=(by omega);obtain⟨b,B⟩:∃b,L[a]?=σ b:=⟨L[a],af r⟩;obtain⟨N,R,aa,c,i,I,t,u⟩:=H.J.Og B;cases i;have Y:=(l.J.cell (p:=⟨N,R+a,ν⟩) I).trans t;obtain⟨V,nQ,rfl⟩:=bz.slice u;have d:=p.J;have fz:=d.frozenAt a;have K:=d.cellAt a (by omega);rw[bp (by omega),dy,aF (by omega)]at K;have U:=au (λc=>(show(wr.setCell ⟨w.heap.size,a,ν⟩ c).ownsRow w.heap.size 230 1 (ψ (σ ⟨w.heap.size,0,ν⟩) L.length L.length) L.length ((vs++[c])++List.replicate (L.length - (a+1)) tV)from by have x:=(d.stored a c).1;rw[DS m r]at x;exact x));clear B u d t;rcases V with _|X
   all_goals
    go_wp2_with fail;exact⟨⟨a+1,vs++[_],by omega,by go_num,by simp[m],au (λc O=>by
     rcases bn.mp O with g|g
     . exact o.J c g
     . rw[a6.mp g];exact⟨_,_,rfl⟩),au (U.J _),au (l.J.setCell (ae _) _)⟩,by simp[intOf];omega⟩
  obtain rfl:a=L.length:=(by omega);have j:=p.J;rw[du,eo,bX]at j;have G:=au j;clear j;go_wp2_with fail;go_ret;exact⟨_,vs,rfl,G.J,o.J,l.J⟩
theorem Vj{w:ω}{B:Nat}{v:υ}{L:List (List aB)}(d:w.ownsRow B 230 1 v L.length x)(g:∀i∈x,∃f c,i=ψ f 0 c):fl w v (L.map λ_=>[]):=
 ⟨x,by rw[aR];exact bz.fM d,λb c a=>by
  rw[aU]at a;have e:b<L.length:=by
   cases hc:L[b]? with
   |none=>rw[hc]at a;cases a
   |some j=>exact(aj.mp hc).1
  rw[af e]at a
  cases a
  have k:x.length=L.length:=by have:=d.1;omega
  exact⟨x[b]'(by omega),af (by omega),rfl,.inl ⟨rfl,g _ (cF _)⟩⟩⟩
