import Derived.Test.YtfeckmaleonjjaaGreatDoorFAR
import Derived.Test.YtfeckmaleonjjaaGreatDoorFCA
set_option maxHeartbeats 0
set_option maxRecDepth 100000
namespace Go.Proofs.YtfeckmaleonjjaaGreatDoor
open Go.World renaming ownsRow→Φ
open Go.World renaming cell?→Ξ
open Go.Value renaming ownBlock→Ω
open List renaming length→Λ
open Go.RowKit
open _root_.Go.Proofs.Tryz
open Option renaming some→σ,none→ν
open Go.IntKind renaming i64→κ
open Go.Ending renaming returned→τ
open Go.Obj renaming cells→ξ
open Go renaming World→ω,Value→υ
open Go.RowKit renaming Below→δ
open Go.Value renaming int→ι,string→θ,slice→ψ,pointer→π,agg→χ
variable{p i g:Nat}{m s c:υ}{x:Δ υ}{l:Δ Γ}{t:Γ}{u:TypeId}{b:ω}
namespace S
theorem QS(f k:Int)(a:Δ Cl)(bs:Δ Nat)(w:ω)(i:Lays bs (qv f k a))(p:Λ a<=64)(c:wH f k a=true)(g:∀b∈a,dK b.n) :
 Calls prog 160 #[θ (strOf bs)] w λl w'=>(∃v,l=τ (.tuple #[ι κ k,v,ι κ 0])/\Φ w' w.heap.size 263 3 v (Λ a) (bW a))/\δ w.heap.size w w':=by
 unfold wH at c;simp only[Bool.and_eq_true,decide_eq_true_eq]at c;obtain⟨t,m,u,x,B⟩:=UL i c.1.1 c.1.2 c.2.1.1 c.2.1.2 p g c.2.2;have D:(strOf bs).size<=140737488351232:=(by rw[UH,i.len];have o:(qv f k a).length<=24+20000:=(by have e:∀b∈a,Aj b:=λb d=>Fl (Am (g b d) (gQ.1 c.2.2 b d));unfold qv body;simp only[List.length_append,cA];have E:=IK k a e;have H:=tL k a e;have I:=tL k (pT a) (λb d=>e b (I3 d));have K:=D6 a;have N:=wF (pT a) a;have y:=WG (pT a).length (by omega);have O:Λ a*pw (pT a).length<=64*8:=jr p y;have j:=Bf g;have z:=nT (Hb j);have P:=Aq (a.any λb=>b.bH) k (leastOf (eI a)) (bitLen (oJ (eI a))) a z (λb d=>(e b d).2);have F:=nT (Ah (uY j));split;{omega};split;{unfold yF;simp only[List.length_append,cA];omega};split;{unfold yG;simp only[List.length_append,List.length_cons,List.length_nil];have G:(if k=1 then([]:Δ Bool)else qG (leastOf (eI a))++eu (bitLen (oJ (eI a))) 7).length<=100:=(by split;{simp};rw[au,wE,cA];omega);omega};omega);omega);refine(UM (strOf bs) w D).mono ?_;rintro l w1 ⟨o,A⟩;refine⟨?_,A⟩;rcases o with⟨_,v,rfl,s⟩|⟨C,_⟩
 {rw[t,m,u,x]at s;exact⟨v,by rw[m],s⟩};exact absurd B C
end S
def yJ(c:aF):S.Cl:=⟨c.bH,c.n,c.s⟩
theorem acE(a:Δ aF):S.bW (a.map yJ)=bW a:=by induction a with|nil=>rfl|cons b a d=>have c:S.bW ((b::a).map yJ)=[.bool b.bH,ι κ b.n,θ b.s]++S.bW (a.map yJ):=rfl;rw[c,d];rfl
def acF(k:Nat)(c:aF):Prop:=S.dK c.n/\S.okB k (yJ c)=true
def YT(k:Nat)(l:Δ aF):Prop:=∀c∈l,acF k c
def Txt(k:Nat)(col:Δ aF)(s:Γ):Prop:=k<=2/\(Λ col)<=64/\YT k col/\∃(bs:Δ Nat) (p:Int),0<=p/\p<=3/\S.Lays bs (S.qv p k (col.map yJ))/\s=S.strOf bs
theorem WJ{k:Nat}{a:Δ aF}(c:YT k a):(a.map yJ).all (S.okB k)=true:=by rw[gQ];intro f d;obtain⟨b,e,rfl⟩:=cP.mp d;exact(c b e).2
theorem acG{k:Nat}{b:Δ aF}(d:YT k b):∀a∈b.map yJ,S.dK a.n:=by intro a e;obtain⟨c,f,rfl⟩:=cP.mp e;exact(d c f).1
theorem UN{k:Nat}{a:Δ aF}(f:Txt k a t)(w:ω):Calls prog 160 #[θ t] w λb w'=>∃v,b=τ (.tuple #[ι κ k,v,ι κ 0])/\Φ w' w.heap.size 263 3 v (Λ a) (bW a)/\δ w.heap.size w w':=by obtain⟨o,i,c,bs,j,l,m,e,rfl⟩:=f;refine(S.QS j k (a.map yJ) bs w e (by simpa using i) (by unfold S.wH;rw[WJ c];simp;omega) (acG c)).mono ?_;rintro b w' ⟨⟨v,rfl,d⟩,g⟩;rw[acE,bk]at d;exact⟨v,rfl,d,g⟩
theorem Jd{k:Nat}{a:aF}(b:acF k a):a.s.size<=12:=(S.Fl (S.Am (c:=yJ a) b.1 b.2)).2
theorem acH{f:Int}{k:Nat}{a:Δ aF}{v:υ}{w:ω}(y:0<=f)(z:f<=3)(R:k<=2)(A:Λ a<=64)(o:YT k a)(m:dW w v a):Calls prog 186 #[ι κ f,ι κ k,v] w λb w'=>∃j,b=τ (.tuple #[θ j,ι κ 0])/\Txt k a j/\δ w.heap.size w w':=by
 have U:∀d∈a.map yJ,d.s.size<=140737488351232:=λd m=>by
  obtain⟨u,g,rfl⟩:=cP.mp m;have:=Jd (o u g);exact ay this (by decide)
 have E:∀(c:Option Addr) (l s e:Nat),v=ψ c (Λ a) e->(0<(a.map yJ).length->c=σ ⟨l,s,ν⟩)->S.kC w l s (a.map yJ)->Λ a<=e->Calls prog 186 #[ι κ f,ι κ k,v] w λb w'=>∃j,b=τ (.tuple #[θ j,ι κ 0])/\Txt k a j/\δ w.heap.size w w':=(by rintro c l s e rfl P O H;have:=S.Ms f k (a.map yJ) c l s e w P O (by simpa using H) (by simpa using A) (acG o) U y z (by omega) (by omega) (WJ o);rw[bk]at this;refine this.mono ?_;rintro b w' ⟨⟨bs,G,rfl⟩,Q⟩;exact⟨_,rfl,⟨R,A,o,bs,f,y,z,G,rfl⟩,Q⟩);rcases m.2 with⟨C,c,d,p⟩|⟨x,F,e,p,T,-,X⟩;{have b:a=[]:=ld C;refine E c 0 0 d (by rw[p,C]) (λt=>by simp[b]at t) (λD d t=>by simp[b]at t) (by omega)};refine E (σ ⟨x,F,ν⟩) x F e p (λ_=>rfl) (λD d i=>?_) T;rw[bp]at i;cases g:a[D]? with|none=>rw[g]at i;cases i|some u=>rw[g]at i;cases i;obtain⟨V,Y,vE,B,I,K,N⟩:=dW.get m g;rw[p]at B;cases B;exact⟨I,K,N⟩
abbrev sM:Value:=.slice none 0 0
structure sw (w:ω)(base:Nat)(vs:Δ υ)(L:Δ (Δ aF)):Prop where
 len:Λ vs=Λ L
 own:∀(i:Nat) (u:υ) (c:Δ aF),vs[i]?=σ u->L[i]?=σ c->Φ w base 263 3 u (Λ c) (bW c)
 apart:∀(i j:Nat) (u u':υ) (g:Nat),i≠j->vs[i]?=σ u->vs[j]?=σ u'->Ω u=σ g->Ω u'≠σ g
section
variable {w w':ω} {base:Nat} {vs:Δ υ} {L:Δ (Δ aF)}
theorem sw.at(e:sw w base vs L){a:Nat}{d:υ}(f:vs[a]?=σ d):∃b,L[a]?=σ b/\Φ w base 263 3 d (Λ b) (bW b):=by have c:=(ah.mp f).1;rw[e.len]at c;exact⟨L[a],af c,e.own a d _ f (af c)⟩
theorem sw.lt(a:sw w base vs L){g:Nat}(c:vs[p]?=σ m)(b:Ω m=σ g):base<=g/\g<w.heap.size:=by obtain⟨e,-,d⟩:=a.at c;exact d.lt g b
theorem sw.aU(a:sw w base vs L)(e:δ w.heap.size w w'):sw w' base vs L:=⟨a.len,λf g b c d=>cO (a.own f g b c d) e,a.apart⟩
theorem sw.kept(c:sw w base vs L){row:Option Nat}(g:w.grownBy w' row)(j:∀(b:Nat) (a:υ) (k:Nat),row=σ k->vs[b]?=σ a->Ω a≠σ k):sw w' base vs L:=
 ⟨c.len,λb a e d f=>eG (c.own b a e d f) g (λk i=>j b a k i d),c.apart⟩
theorem sw.set(p:sw w base vs L){i:Nat}{g:Δ aF}(u:Φ w' base 263 3 m (Λ g) (bW g))(t:∀(c:Nat) (x:υ) (y:Δ aF),c≠i->vs[c]?=σ x->L[c]?=σ y->Φ w' base 263 3 x (Λ y) (bW y))(s:∀(c:Nat) (x:υ) (f:Nat),c≠i->vs[c]?=σ x->Ω m=σ f->Ω x≠σ f):sw w' base (vs.set i m) (L.set i g):=by refine⟨by simp[p.len],λc x y b a=>?_,λc k x y f l b a j=>?_⟩;{rw[bK]at b a;by_cases d:i=c;{subst d;rw[aN rfl]at b a;split at b;{split at a;{cases b;cases a;exact u};cases a};cases b};rw[aH d]at b a;exact t c x y (λe=>d e.symm) b a};rw[bK]at b a;by_cases d:i=c;{subst d;rw[aN rfl]at b;rw[aH l]at a;split at b;{cases b;exact s k y f (λe=>l e.symm) a j};cases b};rw[aH d]at b;by_cases o:i=k;{subst o;rw[aN rfl]at a;split at a;{cases a;intro e;exact s c x f (λe=>d e.symm) b e j};cases a};rw[aH o]at a;exact p.apart c k x y f l b a j
theorem sw.cells(c:sw w base vs L){a:Δ aF}(d:L[p]?=σ a):∃e,vs[p]?=σ e/\dW w e a:=by have b:=(ah.mp d).1;rw[<- c.len]at b;exact⟨vs[p],af b,aS.dE (c.own p _ a (af b) d)⟩
theorem UO(w:ω)(base n:Nat):sw w base (List.replicate n sM) (List.replicate n []):=by refine⟨by simp,λd e f a b=>?_,λd i e j g _ a b c=>?_⟩;{rw[dO]at a b;split at a;{rw[aN (by assumption)]at b;cases a;cases b;exact eM _ _ _ _};cases a};rw[dO]at a;split at a;{cases a;cases c};cases a
end
structure rJ (w:ω)(base:Nat)(v:υ)(vs:Δ υ)(L:Δ (Δ aF)):Prop where
 row:Φ w base 247 1 v (Λ L) vs
 each:sw w base vs L
 off:∀(i:Nat) (u:υ) (g:Nat),vs[i]?=σ u->Ω u=σ g->Ω v≠σ g
theorem rJ.batch{w:ω}{base:Nat}{v:υ}{vs:Δ υ}{L:Δ (Δ aF)}(a:rJ w base v vs L):ft w v L:=⟨vs,aS.dE a.row,λ_ _ b=>a.each.cells b⟩
def Fp(w:ω)(v:υ)(ss:Δ Γ):Prop:=aS w 1 v (Λ ss) (ss.map .string)
theorem Fp.get{w:ω}{v:υ}(e:Fp w v l)(d:l[p]?=σ t):∃a b c,v=ψ (σ ⟨a,b,ν⟩) (Λ l) c/\Ξ w ⟨a,b+p,ν⟩=σ (θ t):=by obtain⟨a,b,c,f,-,-,g⟩:=aS.at e (bY (aB _) (ah.mp d).1);exact⟨a,b,c,f,g p _ (by rw[bp,d];rfl)⟩
def YU(ks:Δ Nat)(L:Δ (Δ aF))(ss:Δ Γ):Prop:=Λ ks=Λ ss/\(Λ L)=Λ ss/\∀(i:Nat) (k:Nat) (c:Δ aF) (s:Γ),ks[i]?=σ k->L[i]?=σ c->ss[i]?=σ s->Txt k c s
theorem Tryz.sN:(prog.info? 247).map (λa=>(a.zero,a.size,a.bytes))=σ (σ (ψ ν 0 0),1,24):=by kernel_rfl
theorem uI(n:Nat):(madeCells (Value.slice ν 0 0).cells n).toList=List.replicate n sM:=by have:=A5 (f:=λa:υ=>[a]) (k:=1) (λ_=>rfl) sM sM rfl (by decide) n;simpa using this
def Eb(L:Δ (Δ aF))(i:Nat):Δ (Δ aF):=L.take i++List.replicate (Λ L - i) []
theorem Fs(L:Δ (Δ aF))(a:p<=Λ L):(Eb L p).length=Λ L:=by simp[Eb];omega
theorem YV{L:Δ (Δ aF)}{a:Δ aF}(b:L[p]?=σ a):(Eb L p).set p a=Eb L (p+1):=by
 have⟨d,e⟩:=ah.mp b;unfold Eb;have c:(L.take p).length=p:=by simp;omega
 rw[show Λ L - p=(Λ L - (p+1))+1 by omega,jb,eO _ _ (by omega),c,dQ,iB,bS,b];simp
theorem rJ.put{w w1:ω}{base n:Nat}{vs:Δ υ}{L:Δ (Δ aF)}{i:Nat}{u:υ}{j:Δ aF}(d:rJ w base (ψ (σ ⟨p,0,ν⟩) n g) vs L)(o:Λ L=n)(l:δ w.heap.size w w1)(s:Φ w1 w.heap.size 263 3 u (Λ j) (bW j))(B:base<=w.heap.size):rJ (w1.setCell ⟨p,i,ν⟩ u) base (ψ (σ ⟨p,0,ν⟩) n g) (vs.set i u) (L.set i j):=by have t:=cO d.row l;rw[o]at t;have D:=(d.row.lt p rfl).2;have A:=(t.stored i u).1;have x:=grownBy_setCell w1 ⟨p,i,ν⟩ u;have m:∀k,Ω u=σ k->w.heap.size<=k:=λk b=>(s.lt k b).1;refine⟨by rw[eP,o];exact A,(d.each.aU l).set (eG (jR s B) x (λk b c=>?_)) (λe f C z a y=>eG ((d.each.aU l).own e f C a y) x (λk b c=>?_)) (λe f k z a b c=>?_),λe f k a b c=>?_⟩;{cases b;have:=m p c;omega};{cases b;exact d.off e f p a c rfl};{have:=(d.each.lt a c).2;have:=m k b;omega};rw[bK]at a;split at a;{split at a;{cases a;have:=m k b;simp[Value.ownBlock]at c;omega};cases a};exact d.off e f k a b c
theorem Ec{w:ω}{v:υ}{p:Δ Nat}{L:Δ (Δ aF)}(A:Fp w v l)(y:YU p L l)(h5:Λ l<=1000):Calls prog 112 #[v] w λr w'=>∃v vs,r=τ v/\rJ w' w.heap.size v vs L/\δ w.heap.size w w':=by
 have⟨T,px,X,Y,V⟩:=gq Tryz.sN;have G:=A;have u:=y;have⟨va,eH,o⟩:=aS.slice A;subst o;have c:=y.2.1;go_in;go_wp2_with(at_make;refine eV _ rfl _ _ 183 rfl w.heap.size 247 T _ 1 underlying183 px X Y _ _ _ _ (Λ l) rfl rfl rfl rfl (by rw[V];omega) (by unfold maxLen;omega) (by simp) ?_;intro w1 x O);rw[lT,uI]at x;have N:δ w.heap.size w w1:=(aj _ _).grown O (ae _) (by simp);have E:Hid (rJ w1 w.heap.size (ψ (σ ⟨w.heap.size,0,ν⟩) (Λ l) (Λ l)) (List.replicate (Λ l) sM) (Eb L 0)):=ak ⟨by rw[Fs L (aB _),c];exact x,by unfold Eb;rw[mC,rW,gI,c];exact UO _ _ _,λa aa Q f R=>by
  rw[dO]at f;split at f
  . cases f;cases R
  . cases f⟩
 have U:=N;go_wp2;go_loopw[10] (λb wr=>∃(a:Nat) (vs:Δ υ),a<=Λ l/\b=ι κ a/\Hid (rJ wr w.heap.size (ψ (σ ⟨w.heap.size,0,ν⟩) (Λ l) (Λ l)) vs (Eb L a))/\Hid (δ w.heap.size w wr)) (λb _=>Λ l - (intOf b).toNat);case atStart=>exact⟨0,_,aB _,rfl,E,U⟩
 case round=>obtain⟨a,vs,hi,rfl,i,e⟩:=hrel;by_cases j:a<Λ l;{have gY:=aX.2 j;obtain⟨s,z⟩:∃s,l[a]?=σ s:=⟨l[a],af j⟩;obtain⟨b,B⟩:∃b,L[a]?=σ b:=⟨L[a],af (by omega)⟩;obtain⟨k,I⟩:∃k,p[a]?=σ k:=⟨p[a]'(by rw[u.1];exact j),af _⟩;have⟨Q,ac,ab,o,c0⟩:=Fp.get (aS.aU G e.J (ae _)) z;cases o;have F:=UN (u.2.2 a k b s I B z) wr;have H:=ak B;go_wp21;refine F.mono ?_;rintro r w2 ⟨aa,rfl,d,m⟩;have t:=i.J.put (i:=a) (Fs L (by omega) |>.trans c) m d e.J.size;rw[YV H.J]at t;have D:=t;have P:=e.J.trans (m.mono e.J.size);have g:=cO i.J.row m;rw[Fs L (by omega),c]at g;have fz:=g.frozenAt a;obtain⟨C,hx⟩:∃C,Ξ w2 ⟨w.heap.size,a,ν⟩=σ C:=(by have:=g.cellAt a (by omega);rw[this,af (by have:=g.1;omega)];exact⟨_,rfl⟩);obtain⟨ua,xv,rfl,-,-⟩:=cR d;go_wp2;go_roundw;(case rel=>exact⟨a+1,_,by omega,by go_num,D,ak (P.setCell (ae _) _)⟩);case measure=>simp[intOf];omega};obtain rfl:a=Λ l:=(by omega);have d:=i.J;unfold Eb at d;rw[<- c,dQ,eF,eR,cM]at d;have K:=ak d;go_wp2;go_ret;exact⟨_,_,rfl,by rw[<- c];exact K.J,e.J⟩
def Je(a b:Nat)(c:Δ aF):Δ aF:=(c.drop a).take (b - a)
def Ft(a b:Nat)(L:Δ (Δ aF)):Δ (Δ aF):=L.map (Je a b)
theorem acJ{a:Nat}{b:Δ aF}(c:p<=Λ b):(Je a p b).length=p - a:=by simp[Je];omega
theorem UQ{b:Δ aF}{a:Nat}(j:a<(g - p)*3)(l:g<=Λ b):(bW (Je p g b))[a]?=(bW b)[p*3+a]?:=by
 have i:a / 3<g - p:=by omega
 obtain⟨c,f⟩:∃c,b[p+a / 3]?=σ c:=⟨b[p+a / 3]'(by omega),af _⟩;have d:=cV fD 3 sD (Je p g b) (i:=a / 3) (a:=c) (by unfold Je;rw[dL,aN i,jA];exact f) (j:=a % 3) (by omega);have e:=cV fD 3 sD b f (j:=a % 3) (by omega);rw[show a / 3*3+a % 3=a by omega]at d;rw[show(p+a / 3)*3+a % 3=p*3+a by omega]at e;exact d.trans e.symm
theorem dW.cut{w:ω}{n:Nat}{c:Δ aF}{a b:Nat}(j:dW w (ψ (σ ⟨p,i,ν⟩) n g) c)(t:a<b)(d:b<=Λ c):dW w (ψ (σ ⟨p,i+a*3,ν⟩) (b - a) (g - a)) (Je a b c):=by
 have f:=acJ (a:=a) d;refine⟨by unfold bW;rw[uP fD 3 sD],.inr ?_⟩;rcases j.2 with⟨y,-⟩|⟨u,z,A,m,x,l,o⟩
 {omega};cases m;refine⟨p,i+a*3,g - a,by rw[f],by omega,l,λs e=>?_⟩;rw[f]at e;rw[UQ e d,<- o (a*3+s) (by omega)];congr 2;omega
theorem ft.UR{w:ω}{v:υ}{d:Δ (Δ aF)}(i:ft w v d){f:Δ aF}(g:d[p]?=σ f):∃a c e b,v=ψ (σ ⟨a,c,ν⟩) (Λ d) e/\a<w.heap.size/\Ξ w ⟨a,c+p,ν⟩=σ b/\dW w b f:=by have⟨vs,j,l⟩:=i;have⟨b,m,o⟩:=l p f g;obtain⟨a,c,e,t,-,s,u⟩:=j.at (bY (aB _) (ah.mp g).1);exact⟨a,c,e,b,t,s,u p b m,o⟩
theorem Ed{n:Nat}{vs:Δ υ}(a:Λ vs=p)(b:p<n):(vs++List.replicate (n - p) s).set p m=(vs++[m])++List.replicate (n - (p+1)) s:=by rw[show n - p=(n - (p+1))+1 by omega,jb,eO _ _ (by omega),a,dQ,iB];simp
theorem agx{w:ω}{v:υ}{L:Δ (Δ aF)}{a b:Nat}(j:ft w v L)(K:a<b)(Y:∀c∈L,b<=Λ c)(h5:Λ L<=1000):Calls prog 114 #[v,ι κ a,ι κ b] w λr w'=>∃v,r=τ v/\ft w' v (Ft a b L)/\δ w.heap.size w w':=by
 have⟨i0,px,lB,ll,kV⟩:=gq Tryz.sN;have F:=ak Y;have⟨va,eH,t⟩:=j.slice;subst t;go_in;go_wp2_with(at_make;refine eV _ rfl _ _ 183 rfl w.heap.size 247 i0 _ 1 underlying183 px lB ll _ _ _ _ (Λ L) rfl rfl rfl rfl (by rw[kV];omega) (by unfold maxLen;omega) (by simp) ?_;intro w1 B T);rw[lT,uI]at B;have iP:Hid (δ w.heap.size w w1):=ak ((aj _ _).grown T (ae _) (by simp));have H:=ak B;go_wp2;go_loopw[14] (λc wr=>∃(d:Nat) (vs:Δ υ),d<=Λ L/\c=ι κ d/\(Λ vs)=d/\Hid (Φ wr w.heap.size 247 1 (ψ (σ ⟨w.heap.size,0,ν⟩) (Λ L) (Λ L)) (Λ L) (vs++List.replicate (Λ L - d) sM))/\Hid (∀(e:Nat) (i:υ) (c:Δ aF),vs[e]?=σ i->L[e]?=σ c->dW w i (Je a b c))/\Hid (δ w.heap.size w wr)) (λc _=>Λ L - (intOf c).toNat);case atStart=>exact⟨0,[],aB _,rfl,rfl,by rw[rW,gI];exact H,ak (λe i c X=>by simp at X),iP⟩
 case round=>
  obtain⟨d,vs,hi,rfl,m,A,z,l⟩:=hrel;by_cases p:d<Λ L;{have gY:=aX.2 p;obtain⟨c,x⟩:∃c,L[d]?=σ c:=⟨L[d],af p⟩;have uq:=F.J c (aq x);have⟨U,ab,ag,i,t,N,Q,o⟩:=j.UR x;cases t;have c0:=(l.J.cell (p:=⟨U,ab+d,ν⟩) N).trans Q;obtain⟨E,aa⟩:∃E,c[a]?=σ E:=⟨c[a]'(by omega),af _⟩;obtain⟨V,o3,y,rfl,-⟩:=o.get aa;have Ib:Λ c<=y:=(by rcases o.2 with⟨hz,-⟩|⟨_,_,_,j,hn,-⟩;{omega};cases j;exact hn);have G:=(o.cut K uq);have mo:(b:Int)<=Λ c:=(by omega);have ac:(b:Int)<=y:=(by omega);have ad:(a:Int)<=b:=(by omega);have O:=ak x;have u:=A.J;have fz:=u.frozenAt d;have R:=u.cellAt d (by omega);rw[br (by omega),dO,aN (by omega)]at R;have D:=(u.stored d (ψ (σ ⟨V,o3+a*3,ν⟩) (b - a) (y - a))).1;rw[Ed m p]at D;have lj:=ak D;go_wp2;refine⟨⟨d+1,vs++[_],by omega,by go_num,by simp[m],lj,ak (λe i c g s=>?_),ak (l.J.setCell (ae _) _)⟩,by simp[intOf];omega⟩;rw[lh]at g;split at g;{exact z.J e i c g s};have f:e=d:=(by have:=(ah.mp g).1;simp at this;omega);subst f;rw[m,dQ]at g;cases g;rw[O.J]at s;cases s;exact G}
  obtain rfl:d=Λ L:=by omega
  have C:=A.J;rw[dQ,eR,cM]at C;have I:Hid (ft wr (ψ (σ ⟨w.heap.size,0,ν⟩) (Λ L) (Λ L)) (Ft a b L)):=ak (by
   refine⟨vs,by unfold Ft;rw[bk];exact aS.dE C,λe c f=>?_⟩;unfold Ft at f;rw[bp]at f
   cases hc:L[e]? with
   |none=>rw[hc]at f;cases f
   |some P=>
     rw[hc]at f
     cases f
     have Gu:=(ah.mp hc).1;exact⟨vs[e],af (by omega),aS.aU (z.J e _ P (af (by omega)) hc) l.J (ae _)⟩)
  go_wp2;go_ret;exact⟨_,rfl,I.J,l.J⟩
theorem Tryz.acK:(prog.info? 9).map (λa=>(a.zero,a.size,a.bytes))=σ (σ (θ ⟨#[]⟩),1,16):=by kernel_rfl
theorem bN{w1:ω}{r:Nat}{t:TypeId}(a:w1.heap[r]?=σ (ξ #[m,s,c] t (0,0))):Ξ w1 ⟨r,0,ν⟩=σ m/\Ξ w1 ⟨r,1,ν⟩=σ s/\Ξ w1 ⟨r,2,ν⟩=σ c:=by simp[World.cell?,a]
theorem YW(n:Nat):(madeCells (Value.string ⟨#[]⟩).cells n).toList=List.replicate n (θ ⟨#[]⟩):=by have:=A5 (f:=λa:υ=>[a]) (k:=1) (λ_=>rfl) (θ ⟨#[]⟩) (θ ⟨#[]⟩) rfl (by decide) n;simpa using this
theorem US{w:ω}{q:Nat}{n:Int}{cv sv:υ}{cy:Δ bU}{L:Δ (Δ aF)}{p:Int}(E:w.heap[q]?=σ (ξ #[cv,sv,ι κ n] 244 (0,0)))(C:eK w cv cy)(G:ft w m L)(R:Λ L=Λ cy)(o:∀b∈cy,b.2<=2)(U:∀(a:Nat) (x:Δ aF) (k:bU),L[a]?=σ x->cy[a]?=σ k->YT k.2 x)(V:∀x∈L,Λ x<=64)(h0:0<=p)(e:p<=3)(h5:Λ L<=1000) :
 Calls prog 274 #[π (σ ⟨q,0,ν⟩),m,ι κ p] w λr w'=>∃v c,r=τ v/\Φ w' w.heap.size 9 1 v (Λ c) (c.map .string)/\YU (cy.map (·.2)) L c/\δ w.heap.size w w':=by
 have⟨i0,px,lB,ll,Y⟩:=gq Tryz.acK;have HT:=ak E;have HC:=C;have HV:=G;have HF:=ak U;have HK:=ak o;have HL:=ak V;have F9:=aA E;have⟨ca,nj,i⟩:=C.slice;subst i;have⟨va,eH,i⟩:=G.slice;subst i;have I:=ak R;clear G C E U o V R;go_in;go_wp2_with(at_make;refine eV _ rfl _ _ 245 rfl w.heap.size 9 i0 _ 1 underlying245 px lB ll _ _ _ _ (Λ L) rfl rfl rfl rfl (by rw[Y];omega) (by unfold maxLen;omega) (by simp) ?_;intro w1 A Q);rw[lT,YW]at A;have iP:Hid (δ w.heap.size w w1):=ak ((aj _ _).grown Q (ae _) (by simp));have HO:=A;clear A Q px lB ll Y;go_wp2;go_loopw[14] (λb wr=>∃(a:Nat) (c:Δ Γ),a<=Λ L/\b=ι κ a/\(Λ c)=a/\Hid (Φ wr w.heap.size 9 1 (ψ (σ ⟨w.heap.size,0,ν⟩) (Λ L) (Λ L)) (Λ L) (c.map .string++List.replicate (Λ L - a) (θ ⟨#[]⟩)))/\Hid (∀(f:Nat) (k:bU) (b:Δ aF) (g:Γ),cy[f]?=σ k->L[f]?=σ b->c[f]?=σ g->Txt k.2 b g)/\Hid (δ w.heap.size w wr)) (λb _=>Λ L - (intOf b).toNat);case atStart=>exact⟨0,[],aB _,rfl,rfl,by rw[rW,rY,gI];exact HO,ak (λf aa b g h d j=>by simp at j),iP⟩
 case round=>
  obtain⟨a,c,hi,rfl,s,N,K,l⟩:=hrel;by_cases z:a<Λ L;{have gY:=aX.2 z;have am:(a:Int)<Λ cy:=(by have:=I.J;omega);obtain⟨b,u⟩:∃b,L[a]?=σ b:=⟨L[a],af z⟩;obtain⟨k,t⟩:∃k,cy[a]?=σ k:=⟨cy[a]'(by have:=I.J;omega),af _⟩;have⟨ai,al,an,aa,i,QT,P,F⟩:=HV.UR u;cases i;have c0:=(l.J.cell (p:=⟨ai,al+a,ν⟩) QT).trans P;have T:dW wr.drew aa b:=aS.aU F (aP l.J) (ae _);have⟨kg,ko,ku,i,k0,k1⟩:=eK.get (HC.aU l.J (ae _)) t;cases i;have⟨t0,t1,t2⟩:=bN ((l.J.block q F9).trans HT.J);have HP:=acH (w:=wr.drew) h0 e (HK.J k (aq t)) (HL.J b (aq u)) (HF.J a b k u t) T;have⟨ua,xv,i⟩:=aS.slice F;subst i;have Kg:=ak u;have ab:=ak t;clear u t F P T;go_wp21;go_region_with(go_at_call 186;refine HP.mono ?_;rintro r w2 ⟨g,rfl,X,O⟩;have B:=(aP (aj wr.heap.size wr)).trans O;have y:=cO N.J B;have fz:=y.frozenAt a;have d1:=y.cellAt a (by omega);rw[br (by simp;omega),dO,aN (by simp;omega)]at d1;have H:=(y.stored a (θ g)).1;rw[Ed (by simp[s]) z]at H;have lj:=ak H;have ad:=ak X;have r7:=ak (l.J.trans (B.mono l.J.size));clear O B y H X);all_goals (try go_wp2);refine⟨⟨a+1,c++[g],by omega,by go_num,by simp[s],by rw[cT];exact lj,ak (λf k b g d j e=>?_),ak (r7.J.setCell (ae _) _)⟩,by simp[intOf];omega⟩;rw[lh]at e;split at e;{exact K.J f k b g d j e};have hj:f=a:=(by have:=(ah.mp e).1;simp at this;omega);subst hj;rw[s,dQ]at e;cases e;rw[Kg.J]at j;rw[ab.J]at d;cases j;cases d;exact ad.J}
  obtain rfl:a=Λ L:=by omega
  have D:=N.J;rw[dQ,eR,cM]at D;have HR:=D;have ac:Hid (YU (cy.map (·.2)) L c):=ak ⟨by rw[bk,s];exact I.J.symm,s.symm,λf k b g d j e=>by
   rw[bp]at d
   cases o:cy[f]? with
   |none=>rw[o]at d;cases d
   |some ag=>rw[o]at d;cases d;exact K.J f ag b g o j e⟩
  clear D;go_wp2;go_ret;exact⟨_,c,rfl,by rw[s];exact HR,ac.J,l.J⟩
def xA(F S:Δ (Δ aF)):Δ (Δ aF):=(F.zip S).map λp=>p.1++p.2
theorem Mz{c S:Δ (Δ aF)}{a b:Δ aF}(d:c[p]?=σ a)(e:S[p]?=σ b):(xA c S)[p]?=σ (a++b):=by unfold xA;rw[bp,pM (z:=(a,b)) |>.mpr ⟨d,e⟩];rfl
theorem sO{a S:Δ (Δ aF)}(b:Λ a=Λ S):(xA a S).length=Λ a:=by simp[xA];omega
def pU(F S:Δ (Δ aF))(i:Nat):Δ (Δ aF):=(xA F S).take i++F.drop i
theorem Jg{a S:Δ (Δ aF)}{b c:Δ aF}(d:a[p]?=σ b)(g:S[p]?=σ c)(f:Λ a=Λ S):(pU a S p).set p (b++c)=pU a S (p+1):=by
 have⟨e,l⟩:=ah.mp d;have i:=Mz d g;have j:((xA a S).take p).length=p:=by rw[bZ,sO f];omega
 unfold pU;rw[cL e,eO _ _ (by omega),j,dQ,iB,bS,i];simp
theorem vf{a S:Δ (Δ aF)}(b:Λ a=Λ S)(c:p<=Λ a):(pU a S p).length=Λ a:=by unfold pU;rw[au,bZ,sO b,dB];omega
theorem Jh{a S:Δ (Δ aF)}(b:Λ a=Λ S)(d:p<Λ a):(pU a S p)[p]?=a[p]?:=by
 have c:((xA a S).take p).length=p:=by rw[bZ,sO b];omega
 unfold pU;rw[br (by omega),c,dQ,jA,kU]
theorem Y4{d:Δ aF}:∀c∈bW d,c.oneCell'=true:=by intro c a;unfold bW at a;rw[List.mem_flatMap]at a;obtain⟨e,-,b⟩:=a;simp[fD]at b;rcases b with rfl|rfl|rfl<;>rfl
theorem Tryz.Fu:(prog.info? 263).map (λa=>(a.zero,a.size,a.bytes))=σ (σ (χ #[.bool false,ι κ 0,θ ⟨#[]⟩]),3,32):=by kernel_rfl
structure Ax (w wr:ω)(base:Nat)(fv:υ)(vs:Δ υ)(F S:Δ (Δ aF))(o n i:Nat)(ms:Δ υ):Prop where
 first:Φ wr base 247 1 fv (Λ F) vs
 out:Φ wr w.heap.size 247 1 (ψ (σ (Ad o 0)) n n) n (ms.take i++List.replicate (n - i) sM)
 ry:sw wr base ms (pU F S i)
 old:∀j,i<=j->ms[j]?=vs[j]?
 off:∀(j:Nat) (u:υ) (g:Nat),ms[j]?=σ u->Ω u=σ g->Ω fv≠σ g/\g≠o
 OV:δ base w wr
 akW:Ω fv≠σ o
theorem take_set{d:Type}{a:Δ d}{n:Nat}{b c:d}(g:Λ a=n)(f:p<n):(a.take p++List.replicate (n - p) c).set p b=(a.set p b).take (p+1)++List.replicate (n - (p+1)) c:=by
 have e:(a.take p).length=p:=by simp;omega
 rw[show n - p=(n - (p+1))+1 by omega,jb,eO _ _ (by omega),e,dQ,iB,bS,List.take_set,bK,aN rfl,aN (by omega),List.set_eq_of_length_le (by omega)];simp
theorem Ax.drew{w wr:ω}{base:Nat}{vs:Δ υ}{b S:Δ (Δ aF)}{n:Nat}(a:Ax w wr base m vs b S p n i x):Ax w wr.drew base m vs b S p n i x:=⟨a.first,a.out,⟨a.ry.len,a.ry.own,a.ry.apart⟩,a.old,a.off,aP a.OV,a.akW⟩
theorem Ax.aK{w wr w3:ω}{base:Nat}{vs:Δ υ}{o S:Δ (Δ aF)}(b:Ax w wr base m vs o S p (Λ o) i x)(G:Λ o=Λ S){e f:Δ aF}(E:o[i]?=σ e)(Q:S[i]?=σ f)(t:x[i]?=σ s){g cap:Nat}
 (P:Φ w3 base 263 3 (ψ (σ (Ad g 0)) (Λ e+Λ f) cap) (Λ e+Λ f) (bW e++bW f)) (A:wr.grownBy w3 (Ω s)) (C:Ω s=σ g\/g=wr.heap.size) (V:base<=p) :
 Ax w (w3.setCell (Ad p i) (ψ (σ (Ad g 0)) (Λ e+Λ f) cap)) base m vs o S p (Λ o) (i+1) (x.set i (ψ (σ (Ad g 0)) (Λ e+Λ f) cap))/\Ξ w3 (Ad p i)=σ sM/\w3.frozen? (Ad p i)=false:=by
 have F:i<Λ o:=(ah.mp E).1;have N:Λ x=Λ o:=by rw[b.ry.len,vf G (gZ F)]
 have aa:=(b.out.lt p rfl).2;have K:g≠p:=(by rcases C with a|a;{exact(b.off i s g t a).2};omega);have T:Ω m≠σ g:=(by rcases C with a|a;{exact(b.off i s g t a).1};intro z;have:=(b.first.lt g z).2;omega);have O:∀d l,d≠i->x[d]?=σ l->Ω l≠σ g:=by
  intro d l u H z;rcases C with a|a
  {exact b.ry.apart i d s l g (λa=>u a.symm) t H a z};have:=(b.ry.lt H z).2;omega
 have B:=eG b.out A (λk c a=>(b.off i s k t c).2 (by simpa[Value.ownBlock]using a.symm));have I:=(B.stored i (ψ (σ (Ad g 0)) (Λ e+Λ f) cap)).1;rw[take_set N F]at I;have D:=grownBy_setCell w3 (Ad p i) (ψ (σ (Ad g 0)) (Λ e+Λ f) cap);have R:bW e++bW f=bW (e++f):=by simp[bW]
 have U:Φ w3 base 263 3 (ψ (σ (Ad g 0)) (Λ e+Λ f) cap) (e++f).length (bW (e++f)):=by rw[au,<- R];exact P
 refine⟨⟨eG (eG b.first A (λk c a=>(b.off i s k t c).1 a)) D (λk c a=>by cases c;exact b.akW a),I,?_,λd u=>?_,λd l k j y=>?_,?_,b.akW⟩,?_,B.frozenAt i⟩;{rw[<- Jg E Q G];refine b.ry.set (eG U D (λk c a=>by cases c;simp[Value.ownBlock]at a;exact K a)) (λd l X u j y=>eG (eG (b.ry.own d l X j y) A (λk c a=>b.ry.apart i d s l k (λa=>u a.symm) t j c a)) D (λk c a=>by cases c;exact(b.off d l p j a).2 rfl)) (λd l k u j c=>by simp[Value.ownBlock]at c;subst c;exact O d l u j)};{rw[bK,aH (by omega)];exact b.old d (by omega)};{rw[bK]at j;split at j;{split at j;{cases j;simp[Value.ownBlock]at y;subst y;exact⟨T,K⟩};cases j};exact b.off d l k j y};{have Y:=b.OV.size;refine(b.OV.grown A (by have:=b.out.lt p rfl;omega) (λk c=>(b.ry.lt t c).1)).setCell V _};rw[B.cellAt i (by omega),br (by simp;omega),dO,aN (by simp;omega)]
def jM(M:Nat->Prop)(v:υ):Prop:=∀a n c,v=ψ (σ a) n c->¬M a.block
def iJ(M:Nat->Prop)(w:ω)(v:υ)(L:Δ (Δ aF)):Prop:=jM M v/\∃vs,aS w 1 v (Λ L) vs/\∀(i:Nat) (c:Δ aF),L[i]?=σ c->∃u,vs[i]?=σ u/\dW w u c/\jM M u
theorem iJ.batch{M:Nat->Prop}{w:ω}{v:υ}{L:Δ (Δ aF)}(b:iJ M w v L):ft w v L:=by obtain⟨-,vs,c,d⟩:=b;exact⟨vs,c,λi a g=>by obtain⟨j,e,f,-⟩:=d i a g;exact⟨j,e,f⟩⟩
theorem UT{w:ω}{base:Nat}{sv:υ}{vs:Δ υ}{a S:Δ (Δ aF)}(l:rJ w base m vs a)(K:∀w',δ base w w'->ft w' sv S)(hl:Λ a=Λ S)(h5:Λ a<=1000)(X:∀(b:Nat) (c e:Δ aF),a[b]?=σ c->S[b]?=σ e->0<Λ e/\(Λ c)+Λ e<=1000)(O:base<=w.heap.size) :
 Calls prog 273 #[m,sv] w λr w'=>∃v,r=τ v/\iJ (·<base) w' v (xA a S)/\δ base w w':=by
 have⟨i0,px,lB,ll,kV⟩:=gq Tryz.sN;have⟨j0,am,an,ao,ap⟩:=gq Tryz.Fu;obtain⟨U,R,rfl,Y,-⟩:=cR l.row;obtain⟨sa,nZ,rfl⟩:=(K w (aj _ _)).slice;have HS:=ak K;have i:=ak hl;have HC:=ak X;have ac:=ak Y;clear K hl X Y;go_in;go_wp2_with(at_make;refine eV _ rfl _ _ 183 rfl w.heap.size 247 i0 _ 1 underlying183 px lB ll _ _ _ _ (Λ a) rfl rfl rfl rfl (by rw[kV];omega) (by unfold maxLen;omega) (by simp) ?_;intro w1 D T);rw[lT,uI]at D;have y:δ w.heap.size w w1:=(aj _ _).grown T (ae _) (by simp);have HJ:Hid (Ax w w1 base (ψ U (Λ a) R) vs a S w.heap.size (Λ a) 0 vs):=ak ⟨cO l.row y,by rw[mC,gI,rW];exact D,by have:=l.each.aU y;unfold pU;rw[mC,gI,List.drop_zero];exact this,λ_ _=>rfl,λf t E j p=>⟨l.off f t E j p,λg=>by have:=(l.each.lt j p).2;omega⟩,y.mono O,λg=>by have:=(l.row.lt _ g).2;omega⟩;clear D T y px lB ll kV;go_wp2;go_loopw[12] (λo wr=>∃(b:Nat) (x:Δ υ),b<=Λ a/\o=ι κ b/\Hid (Ax w wr base (ψ U (Λ a) R) vs a S w.heap.size (Λ a) b x)) (λo _=>Λ a - (intOf o).toNat);case atStart=>exact⟨0,vs,aB _,rfl,HJ⟩
 case round=>
  obtain⟨b,x,hi,rfl,Q⟩:=hrel;by_cases C:b<Λ a;{have gY:=aX.2 C;have ar:(b:Int)<Λ S:=(by have:=i.J;omega);obtain⟨E,rfl,aC⟩:=ac.J (by omega);obtain⟨c,u⟩:∃c,a[b]?=σ c:=⟨a[b],af C⟩;obtain⟨e,z⟩:∃e,S[b]?=σ e:=⟨S[b]'(by have:=i.J;omega),af _⟩;have⟨qd,Mv⟩:=HC.J b c e u z;have d:=Q.J;obtain⟨t,N,-⟩:=l.each.cells u;have P:x[b]?=σ t:=(d.old b (ae _)).trans N;have I:=d.ry.own b t c P ((Jh i.J C).trans u);obtain⟨ua,xv,rfl,a0,ax⟩:=cR I;have c0:Ξ wr (Ad E b)=σ (ψ ua (Λ c) xv):=(d.first.cellAt b (by omega)).trans N;have⟨sg,so,av,v,he,aT,s0,s⟩:=(HS.J wr d.OV).UR z;cases he;obtain⟨vg,vo,eH,rfl,a1,a2,ab⟩:=aS.at s qd;have ai:Hid (Φ wr.drew base 263 3 (ψ ua (Λ c) xv) (Λ c) (bW c)):=ak I;have vB:Hid (∀f B,(bW e)[f]?=σ B->Ξ wr.drew (((Ad vg vo):Addr).add f)=σ B):=ak (λf B h=>by have g:=ab f B h;cases f with|zero=>simpa[Addr.add]using g|succ f=>simpa[Addr.add]using g);have PK:=ak (λ(F G:Nat) (A:ω) j (p:wr.drew.grownBy A _) h3=>d.drew.aK i.J u z P (g:=F) (cap:=G) (w3:=A) j p h3 O);have al:=ay O (gZ (d.out.lt w.heap.size rfl).2);have aa:(bW e).length=Λ e*3:=(by unfold bW;exact uP fD 3 sD e);have ag:=ak aa;clear d s I ab P N u z aa;go_wp2;go_region_law(refine step_append_lies _ rfl (.tmp 20) (.tmp 24) 247 rfl base 263 j0 _ 3 32 underlying247 am an ao ap rfl (by decide) _ _ _ (by simp[Act.eval]) ai.J (Ad vg vo) (Λ e) eH (bW e) (by simp[Act.eval]) ag.J vB.J Y4 qd (by unfold maxLen;omega) (by omega) al wr.heap.size rfl ?_;intro F G A oN kH vP _;have⟨V,d0,fz⟩:=PK.J F G A oN kH vP;have ad:=ak V;clear V oN kH vP);all_goals (try go_wp2);go_roundw;(case rel=>exact⟨b+1,_,by omega,by go_num,ad⟩);case measure=>simp[intOf];omega}
  obtain rfl:b=Λ a:=by omega
  have d:=Q.J;have H:=d.out;have Gt:Λ x=Λ a:=by rw[d.ry.len,vf i.J (ae _)]
  rw[dQ,eR,cM,aQ (by omega)]at H;have g:pU a S (Λ a)=xA a S:=by unfold pU;rw[lZ,cM,aQ (by rw[sO i.J];exact ae _)]
  have HR:Hid (iJ (·<base) wr (ψ (σ (Ad w.heap.size 0)) (Λ a) (Λ a)) (xA a S)):=ak ⟨λc n o s hm=>by cases s;simp at hm;omega,x,by rw[sO i.J];exact aS.dE H,λf o hj=>by
   rw[<- g]at hj;have⟨t,j,p⟩:=d.ry.cells hj;exact⟨t,j,p,λc n o s hm=>by
    have:=(d.ry.lt (g:=c.block) j (by rw[s];rfl)).1;omega⟩⟩
  have HB:=d.OV;clear d H Gt g;go_wp2;go_ret;exact⟨_,rfl,HR.J,HB⟩
def dq(n:Nat)(R:Δ (Δ aF)):Δ (Δ aF):=(List.range n).map λj=>R.map λr=>r.getD j fj
theorem cG(n:Nat)(a:Δ (Δ aF)):(dq n a).length=n:=by simp[dq]
theorem Ji{n:Nat}{b:Δ (Δ aF)}{c:Δ aF}(a:(dq n b)[p]?=σ c):p<n/\c=b.map λr=>r.getD p fj:=by unfold dq at a;rw[bp]at a;cases hr:(List.range n)[p]? with|none=>rw[hr]at a;cases a|some k=>rw[hr]at a;cases a;obtain⟨d,e⟩:=ah.mp hr;simp at d e;subst e;exact⟨d,rfl⟩
theorem mP{n:Nat}{R:Δ (Δ aF)}(a:p<n):(dq n R)[p]?=σ (R.map λr=>r.getD p fj):=by unfold dq;rw[bp,lI a];rfl
theorem o5{n:Nat}{b:Δ (Δ aF)}{c:Δ aF}(a:c∈dq n b):Λ c=Λ b:=by unfold dq at a;rw[cP]at a;obtain⟨d,-,rfl⟩:=a;simp
theorem Gb(n:Nat)(b c:Δ (Δ aF)):xA (dq n b) (dq n c)=dq n (b++c):=by apply dr;intro d;by_cases a:d<n;{rw[Mz (mP a) (mP a),mP a,cT]};rw[bM (by rw[sO (by rw[cG,cG]),cG];omega),bM (by rw[cG];omega)]
theorem Jj(n a c:Nat)(b:Δ (Δ aF)):Ft a c (dq n b)=dq n ((b.drop a).take (c - a)):=by apply dr;intro e;unfold Ft;by_cases d:e<n;{rw[bp,mP d,mP d];simp[Je,List.map_drop,List.map_take]};rw[bM (by rw[bk,cG];omega),bM (by rw[cG];omega)]
def NV(cy:Δ bU)(r:Δ aF):Prop:=Λ r=Λ cy/\∀(j:Nat) (c:aF) (k:bU),r[j]?=σ c->cy[j]?=σ k->acF k.2 c
def nB(cy:Δ bU)(R:Δ (Δ aF)):Prop:=∀r∈R,NV cy r
theorem agy{cy:Δ bU}{a:Δ (Δ aF)}(f:nB cy a){b:Δ aF}{k:bU}(g:(dq (Λ cy) a)[p]?=σ b)(i:cy[p]?=σ k):YT k.2 b:=by
 obtain⟨l,rfl⟩:=Ji g;intro o j;obtain⟨r,m,rfl⟩:=cP.mp j;have c:=f r m;have d:p<Λ r:=by rw[c.1];exact l
 have e:r[p]?=σ (r.getD p fj):=by simp[List.getD,List.getElem?_eq_getElem d]
 exact c.2 p _ k e i
def oi(S:Nat)(Cs:Δ (Δ (Δ aF))):Prop:=∀(i:Nat) (c:Δ (Δ aF)),Cs[i]?=σ c->0<Λ c/\(Λ c)<=S/\(i+1<Λ Cs->Λ c=S)
theorem oi.nil{S:Nat}:oi S []:=λc b a=>by simp at a
theorem oi.snoc{S:Nat}{b:Δ (Δ (Δ aF))}{c:Δ (Δ aF)}(e:∀d∈b,Λ d=S)(m:0<S)(g:0<Λ c)(i:Λ c<=S):oi S (b++[c]):=by intro l d a;rw[lh]at a;split at a;{have:=e d (aq a);exact⟨by omega,by omega,λ_=>this⟩};have j:=(ah.mp a).1;simp at j;have f:l - Λ b=0:=(by omega);rw[f]at a;cases a;exact⟨g,i,λe=>by simp at e;omega⟩
theorem xB{S:Nat}:∀{a:Δ (Δ (Δ aF))},(∀b∈a,Λ b=S)->Λ a.flatten=Λ a*S
 |[],_=>by simp
 |b::l,h=>by
   rw[List.flatten_cons,au,xB (λd c=>h d (by simp[c])),h b (by simp),cw,nU];omega
theorem oi.last{S:Nat}{d:Δ (Δ (Δ aF))}(g:oi S d):(Λ d.flatten % S=0/\∀b∈d,Λ b=S)\/∃Ds a,d=Ds++[a]/\(∀b∈Ds,Λ b=S)/\0<Λ a/\(Λ a)<S/\(Λ d.flatten) % S=Λ a:=by
 rcases List.eq_nil_or_concat d with rfl|⟨Ds,a,rfl⟩;{exact .inl ⟨by simp,λb c=>by simp at c⟩}
 have e:∀b∈Ds,Λ b=S:=(by intro b c;obtain⟨o,j⟩:=cB c;have m:=(ah.mp j).1;exact(g o b (by rw[mH,bF m];exact j)).2.2 (by simp;omega));have l:=g (Λ Ds) a (by rw[mH,br (ae _)];simp);have f:(Ds.concat a).flatten.length=Λ Ds*S+Λ a:=by rw[mH,kd,au,xB e];simp
 by_cases i:Λ a=S
 .refine .inl ⟨by rw[f,i,Nat.add_mod_right,Nat.mul_mod_left],λb c=>?_⟩;rw[mH,bA,bj]at c;rcases c with c|rfl
  {exact e b c};exact i
 refine .inr ⟨Ds,a,by rw[mH],e,l.1,by omega,?_⟩;rw[f,Nat.mul_add_mod_self_right];exact xT (by omega)
def wI(w:ω)(cy:Δ bU)(vs:Δ υ)(Cs:Δ (Δ (Δ aF))):Prop:=Λ vs=Λ Cs/\∀(i:Nat) (u:υ) (c:Δ (Δ aF)),vs[i]?=σ u->Cs[i]?=σ c->∃ss,Fp w u ss/\YU (cy.map (·.2)) (dq (Λ cy) c) ss
def mA(q:Nat)(sv:υ)(b:Nat):Prop:=b=q\/Ω sv=σ b
theorem aS.moves{w w':ω}{size n:Nat}{v:υ}{M:Nat->Prop}(c:aS w size v n x)(p:jM M v)(t:w.heap.size<=w'.heap.size)(j:∀a,a<w.heap.size->¬M a->w'.heap[a]?=w.heap[a]?):aS w' size v n x:=by
 refine⟨c.1,?_⟩;rcases c.2 with i|⟨b,f,g,d,l,m,s⟩
 {exact .inl i};refine .inr ⟨b,f,g,d,l,by omega,λe o=>?_⟩;rw[<- s e o];exact dx (w:=w) (a:=(Ad b (f+e))) (j b m (p _ _ _ d))
section
variable {M M':Nat->Prop} {w w':ω} {v:υ} {L:Δ (Δ aF)}
theorem iJ.moves(g:iJ M w v L)(e:w.heap.size<=w'.heap.size)(d:∀a,a<w.heap.size->¬M a->w'.heap[a]?=w.heap[a]?):iJ M w' v L:=by obtain⟨b,vs,i,j⟩:=g;exact⟨b,vs,i.moves b e d,λp f o=>by obtain⟨s,l,m,c⟩:=j p f o;exact⟨s,l,aS.moves m c e d,c⟩⟩
theorem aS.inside{size n:Nat}(e:aS w size v n x)(m:0<n):∀a d b,v=ψ (σ a) d b->a.block<w.heap.size:=by
 intro a d b g;rcases e.2 with⟨l,-⟩|⟨j,o,i,c,-,f,-⟩
 {omega};rw[g]at c;cases c;exact f
theorem iJ.weaken(b:iJ M w v L)(l:∀e,M' e->M e\/w.heap.size<=e)(x:0<Λ L)(u:∀a∈L,0<Λ a):iJ M' w v L:=by
 obtain⟨o,vs,i,p⟩:=b;refine⟨λc n a d f=>?_,vs,i,λy a m=>?_⟩;{rcases l _ f with b|b;{exact o c n a d b};have:=i.inside x c n a d;omega}
 obtain⟨z,s,j,t⟩:=p y a m;refine⟨z,s,j,λc n g d f=>?_⟩;rcases l _ f with b|b
 {exact t c n g d b};have:=aS.inside j (u a (aq m)) c n g d;omega
end
theorem wI.moves{M:Nat->Prop}{w w':ω}{cy:Δ bU}{vs:Δ υ}{c:Δ (Δ (Δ aF))}(d:wI w cy vs c)(m:∀b∈vs,jM M b)(o:w.heap.size<=w'.heap.size)(l:∀a,a<w.heap.size->¬M a->w'.heap[a]?=w.heap[a]?):wI w' cy vs c:=
 ⟨d.1,λp b f e g=>by obtain⟨s,i,j⟩:=d.2 p b f e g;exact⟨s,aS.moves i (m b (aq e)) o l,j⟩⟩
theorem Q7{w:ω}{base size n:Nat}{a:Option Addr}(b:Φ w base u size (ψ a n i) n x)(c:p<=n)(o:0<n):Φ w base u size (ψ a p i) p (x.take (p*size)):=by
 refine⟨by rw[bZ,b.1];exact jv (iC _ c),?_⟩;rcases b.2 with⟨-,s⟩|⟨d,y,cur,m,l,j,t,e,f,g⟩
 {omega};cases m;refine .inr ⟨d,i,cur,rfl,l,j,by omega,e,f,?_⟩;rw[<- g,List.take_take,jv (iC _ c)]
structure sx (Z:Nat->Prop)(w wr:ω)(q base:Nat)(cy:Δ bU)(cv Lb sv:υ)(vs:Δ υ)(Ds:Δ (Δ (Δ aF)))(n:Int):Prop where
 jy:wr.heap[q]?=σ (ξ #[cv,sv,ι κ n] 244 (0,0))
 Lc:eK wr cv cy
 own:Φ wr base 245 1 sv (Λ Ds) vs
 uB:wI wr cy vs Ds
 row:∀g,Ω sv=σ g->Ω Lb=σ g\/w.heap.size<=g
 off:Ω sv≠σ q
 OW:jM (mA q sv) cv
 MA:∀u∈vs,jM (mA q sv) u
 keep:bu (λb=>b<w.heap.size/\¬mA q Lb b) w wr
 lq:q<w.heap.size
 zap:∀u∈vs,jM Z u
 zin:∀b,Z b->b<w.heap.size
section
variable {Z:Nat->Prop} {w wr w2:ω} {q base:Nat} {cy:Δ bU} {cv Lb sv:υ} {vs:Δ υ} {Ds:Δ (Δ (Δ aF))} {n:Int}
theorem sx.aU(a:sx Z w wr q base cy cv Lb sv vs Ds n)(b:δ wr.heap.size wr w2):sx Z w w2 q base cy cv Lb sv vs Ds n:=
 ⟨(b.block q (aA a.jy)).trans a.jy,a.Lc.aU b (ae _),cO a.own b,a.uB.moves a.MA b.size (λc d _=>b.block c d),a.row,a.off,a.OW,a.MA,a.keep.trans ⟨b.os,b.tape,b.output,b.size,λc e=>b.block c (aw e.1 a.keep.size)⟩,a.lq,a.zap,a.zin⟩
theorem sx.put(b:sx Z w wr q base cy cv Lb sv vs Ds n){i:Nat}{u sv2:υ}{n2:Int}{vs2:Δ υ}{Ds2:Δ (Δ (Δ aF))}(x:(#[cv,sv,ι κ n]:Array υ).setIfInBounds i u=#[cv,sv2,ι κ n2])(s:Φ wr base 245 1 sv2 (Λ Ds2) vs2)(o:wI wr cy vs2 Ds2)(y:∀d,Ω sv2=σ d->Ω Lb=σ d\/w.heap.size<=d)(f:Ω sv2≠σ q)(g:jM (mA q sv2) cv)(j:∀u∈vs2,jM (mA q sv2) u)(p:∀u∈vs2,jM Z u) :
 sx Z w (wr.setCell (Ad q i) u) q base cy cv Lb sv2 vs2 Ds2 n2:=by
 have l:∀a,a<wr.heap.size->¬mA q sv2 a->(wr.setCell (Ad q i) u).heap[a]?=wr.heap[a]?:=λa _ t=>aL _ _ _ _ (show a≠q fromλc=>t (.inl c));have m:wr.heap.size<=(wr.setCell (Ad q i) u).heap.size:=by simp[World.setCell]
 refine⟨?_,aS.moves b.Lc g m l,eG s (grownBy_setCell wr (Ad q i) u) (λk e c=>by cases e;exact f c),o.moves j m l,y,f,g,j,b.keep.setCell (λe=>e.2 (.inl rfl)) _,b.lq,p,b.zin⟩;rw[<- x];exact bq wr q i _ _ u b.jy
theorem sx.UW(b:sx Z w wr q base cy cv Lb sv vs Ds n){w3:ω}{g:Nat}{c:Δ (Δ aF)}(R:Fp wr m l)(T:jM (mA q sv) m)(ag:jM Z m)(Mr:YU (cy.map (·.2)) (dq (Λ cy) c) l)(Y:0<Λ l)
 (dy:Φ w3 base 245 1 (ψ (σ (Ad g 0)) (Λ Ds+1) p) (Λ Ds+1) (vs++[m])) (o:wr.grownBy w3 (Ω sv)) (y:Ω sv=σ g\/wr.heap.size<=g) (ab:0<Λ cy) :
 sx Z w (w3.setCell (Ad q 1) (ψ (σ (Ad g 0)) (Λ Ds+1) p)) q base cy cv Lb (ψ (σ (Ad g 0)) (Λ Ds+1) p) (vs++[m]) (Ds++[c]) n/\w3.heap[q]?=σ (ξ #[cv,sv,ι κ n] 244 (0,0)):=by
 have hq:=aA b.jy;have G:=o.size;have N:g≠q:=(by rcases y with a|a;{intro B;exact b.off (by rw[a,B])};omega);have old:∀d,d<wr.heap.size->¬mA q sv d->w3.heap[d]?=wr.heap[d]?:=λd i t=>o.block d i (λa=>t (.inr a.symm));have U:w3.heap[q]?=σ (ξ #[cv,sv,ι κ n] 244 (0,0)):=(o.block q hq (λa=>b.off a.symm)).trans b.jy;have O:∀d,mA q (ψ (σ (Ad g 0)) (Λ Ds+1) p) d->mA q sv d\/wr.heap.size<=d:=(by rintro d (a|a);{exact .inl (.inl a)};simp[Value.ownBlock]at a;subst a;exact y.imp .inr id);have K:jM (mA q (ψ (σ (Ad g 0)) (Λ Ds+1) p)) cv:=λs k c u D=>by
  rcases O _ D with a|a
  . exact b.OW s k c u a
  . have:=aS.inside b.Lc ab s k c u;omega
 have I:∀j∈vs++[m],jM (mA q (ψ (σ (Ad g 0)) (Λ Ds+1) p)) j:=by
  intro j e s k A u D;rw[bA,bj]at e;rcases O _ D with a|a
  {rcases e with e|rfl;{exact b.MA j e s k A u a};exact T s k A u a};rcases e with e|rfl;{obtain⟨x,z⟩:=cB e;have C:=(ah.mp z).1;have X:x<Λ Ds:=(by rw[<- b.uB.1];exact C);obtain⟨H,F,E⟩:=b.uB.2 x j Ds[x] z (af X);have ad:0<Λ H:=(by have:=E.1;rw[bk]at this;omega);have:=aS.inside F ad s k A u;omega};have:=aS.inside R Y s k A u;omega
 have aa:wI w3 cy (vs++[m]) (Ds++[c]):=(by refine⟨by simp[b.uB.1],λx j ac i t=>?_⟩;by_cases z:x<Λ Ds;{rw[bF (by rw[b.uB.1];exact z)]at i;rw[bF z]at t;obtain⟨H,F,E⟩:=b.uB.2 x j ac i t;exact⟨H,aS.moves F (b.MA j (aq i)) G old,E⟩};rw[br (by rw[b.uB.1];omega),b.uB.1]at i;rw[br (by omega)]at t;have C:=(ah.mp i).1;simp at C;have e0:x - Λ Ds=0:=(by omega);rw[e0]at i t;cases i;cases t;exact⟨l,aS.moves R T G old,Mr⟩)
 refine⟨?_,U⟩;have V:bu (λd=>d<w.heap.size/\¬mA q Lb d) w w3:=b.keep.trans ⟨o.os,o.tape,o.output,o.size,λd f=>o.block d (aw f.1 b.keep.size) (λa=>by
  rcases b.row d a.symm with B|B
  . exact f.2 (.inr B)
  . exact absurd f.1 (by omega))⟩
 have P:∀d,d<w3.heap.size->¬mA q (ψ (σ (Ad g 0)) (Λ Ds+1) p) d->(w3.setCell (Ad q 1) (ψ (σ (Ad g 0)) (Λ Ds+1) p)).heap[d]?=w3.heap[d]?:=λd _ y=>aL _ _ _ _ (show d≠q fromλa=>y (.inl a));have Q:w3.heap.size<=(w3.setCell (Ad q 1) (ψ (σ (Ad g 0)) (Λ Ds+1) p)).heap.size:=by simp[World.setCell]
 refine⟨bq w3 q 1 _ _ _ U,aS.moves (aS.moves b.Lc b.OW G old) K Q P,eG (by rw[au];exact dy) (grownBy_setCell w3 (Ad q 1) _) (λk f a=>by cases f;simp[Value.ownBlock]at a;exact N a),aa.moves I Q P,λk f=>?_,by simp[Value.ownBlock];exact N,K,I,V.setCell (λf=>f.2 (.inl rfl)) _,b.lq,λj e=>by
  rw[bA,bj]at e;rcases e with e|rfl
  . exact b.zap j e
  . exact ag,b.zin⟩
 simp[Value.ownBlock]at f;subst f;rcases y with a|a
 {exact b.row g a};have:=b.keep.size;exact .inr (by omega)
end
structure zr where
 seg:Nat
 pk:Nat
 wd:Nat
 prune:Bool
 push:Bool
 bz:Nat
 s1:1<=seg
 s16:seg<=16
 p3:pk<=3
 w1:1<=wd
 w16:wd<=16
 b4:bz<=4096
def Y5(o:zr):Δ υ:=[ι κ o.seg,ι κ o.pk,ι κ o.wd,.bool o.prune,.bool o.push,ι κ o.bz]
abbrev oO(o:zr):Obj:=.cells #[.int .i64 o.seg,.int .i64 o.pk,.int .i64 o.wd,.bool o.prune,.bool o.push,.int .i64 o.bz] 51
structure Adding (Z:Nat->Prop)(w wr:ω)(q base S:Nat)(cy:Δ bU)(cv Lb sv mv:υ)(vs:Δ υ)(Ds Es:Δ (Δ (Δ aF)))(M:Δ (Δ aF))(n:Int)(at_:Nat):Prop where
 tab:sx Z w wr q base cy cv Lb sv vs (Ds++Es) n
 bat:iJ (mA q sv) wr mv (dq (Λ cy) M)
 full:∀d∈Ds,Λ d=S
 done:Es.flatten=M.take at_
 each:∀(i:Nat) (d:Δ (Δ aF)),Es[i]?=σ d->0<Λ d/\(Λ d)<=S/\(i+1<Λ Es->Λ d=S)
 pos:at_=Λ Es*S
 acU:at_<Λ M->∀d∈Es,Λ d=S
theorem yN{Z:Nat->Prop}{w wr w2:ω}{q base S:Nat}{cy:Δ bU}{cv Lb sv:υ}{vs:Δ υ}{Ds c:Δ (Δ (Δ aF))}{M:Δ (Δ aF)}{n:Int}{k:Nat}(a:Adding Z w wr q base S cy cv Lb sv m vs Ds c M n k)(b:δ wr.heap.size wr w2):Adding Z w w2 q base S cy cv Lb sv m vs Ds c M n k:=
 ⟨a.tab.aU b,a.bat.moves b.size (λd a _=>b.block d a),a.full,a.done,a.each,a.pos,a.acU⟩
theorem iJ.sub{M M':Nat->Prop}{w:ω}{v:υ}{L:Δ (Δ aF)}(i:iJ M w v L)(f:∀e,M' e->M e):iJ M' w v L:=by have⟨j,vs,l,m⟩:=i;exact⟨λa n b d c=>j a n b d (f _ c),vs,l,λu b t=>by obtain⟨x,o,p,s⟩:=m u b t;exact⟨x,o,p,λa n g d c=>s a n g d (f _ c)⟩⟩
theorem Adding.step{Z:Nat->Prop}{w wr w4 w5:ω}{q base S:Nat}{cy:Δ bU}{cv Lb sv u:υ}{vs:Δ υ}{Ds f:Δ (Δ (Δ aF))}{M:Δ (Δ aF)}{n:Int}{k:Nat}(b:Adding Z w wr q base S cy cv Lb sv m vs Ds f M n k)(H:δ wr.heap.size wr w4){ss:Δ Γ}{ch:Δ (Δ aF)}(A:Φ w4 wr.heap.size 9 1 u (Λ ss) (ss.map .string))(j:YU (cy.map (·.2)) (dq (Λ cy) ch) ss)(E:ch=(M.drop k).take (min (k+S) (Λ M) - k))(I:k<Λ M){g cap:Nat}
 (X:Φ w5 base 245 1 (ψ (σ ⟨g,0,ν⟩) ((Ds++f).length+1) cap) ((Ds++f).length+1) (vs++[u])) (z:(w4.alloc (ξ #[u] 245)).grownBy w5 (Ω sv)) (zY:Ω sv=σ g\/g=w4.heap.size+1) (D:0<Λ cy) (hS:1<=S) :
 Adding Z w (w5.setCell ⟨q,1,ν⟩ (ψ (σ ⟨g,0,ν⟩) ((Ds++f).length+1) cap)) q base S cy cv Lb (ψ (σ ⟨g,0,ν⟩) ((Ds++f).length+1) cap) m (vs++[u]) Ds (f++[ch]) M n (k+S)/\Ξ w5 ⟨q,1,ν⟩=σ sv/\w5.frozen? ⟨q,1,ν⟩=false:=by
 have F:δ w4.heap.size w4 (w4.alloc (ξ #[u] 245)):=(aj _ _).alloc (ae _) _;have t:=H.trans (F.mono H.size);have hA:=b.tab.aU t;have ad:jM (mA q sv) u:=λO al l B d=>by
  subst B;obtain⟨va,eH,x,p,-⟩:=cR A
  cases x
  have o:Λ ss=Λ cy:=by have:=j.1;rw[bk]at this;exact this.symm
  have⟨g2,y,sF⟩:=p (by omega)
  cases y
  rcases d with a|a
  . have:=aA b.tab.jy;simp at a;omega
  . have:=(b.tab.own.lt _ a).2;simp at this;omega
 have ag:jM Z u:=λO al l B d=>by
  subst B;obtain⟨va,eH,x,p,-⟩:=cR A
  cases x
  have o:Λ ss=Λ cy:=by have:=j.1;rw[bk]at this;exact this.symm
  have⟨g2,y,sF⟩:=p (by omega)
  cases y
  have h1:=b.tab.zin _ d;have:=b.tab.keep.size;simp at h1;omega
 have N:0<Λ ss:=by have:=j.1;rw[bk]at this;omega
 have C:Ω sv=σ g\/(w4.alloc (ξ #[u] 245)).heap.size<=g:=zY.imp id (λa=>by simp;omega);have⟨aa,K⟩:=hA.UW (aS.aU (aS.dE A) F (ae _)) ad ag j N X z C D;obtain⟨-,V,-⟩:=bN K;have ab:0<Λ M:=by omega
 have uq:∀l∈dq (Λ cy) M,0<Λ l:=λl hc=>by rw[o5 hc];exact ab
 have ac:Λ ch=min S (Λ M - k):=by rw[E,bZ,dB];omega
 have P:ch=(M.drop k).take S:=(by rw[E];by_cases h2:k+S<=Λ M;{rw[jv h2,Nat.add_sub_cancel_left]};rw[sX (by omega),aQ (by rw[dB];exact ae _),aQ (by rw[dB];omega)]);refine⟨⟨by rw[<- cC];exact aa,?_,b.full,?_,λai s c=>?_,?_,λo s c=>?_⟩,V,jd K 1⟩
 .have Q:=b.bat.moves t.size (λe i _=>t.block e i)
  have R:=Q.weaken (M':=λe=>mA q sv e\/e=g) (λe d=>d.imp id id |>.elim .inl (λa=>C.elim (λG=>.inl (.inr (by rw[G,a]))) (λG=>.inr (by omega)))) (by rw[cG];exact D) uq;have T:=R.moves (w':=w5) z.size (λe i d=>z.block e i (λa=>d (.inl (.inr a.symm))));have U:=T.moves (w':=w5.setCell ⟨q,1,ν⟩ (ψ (σ ⟨g,0,ν⟩) ((Ds++f).length+1) cap)) (by simp[World.setCell]) (λe i d=>aL _ _ _ _ (show e≠q fromλa=>d (.inl (.inl a))));exact U.sub (λe d=>by
   rcases d with a|a
   . exact .inl (.inl a)
   . simp[Value.ownBlock]at a;exact .inr a.symm)
 {rw[kd,b.done,P,List.take_add];simp};{rw[lh]at c;split at c;{have:=b.acU I s (aq c);exact⟨by omega,by omega,λ_=>this⟩};have o:=(ah.mp c).1;simp at o;have Y:ai - Λ f=0:=(by omega);rw[Y]at c;cases c;exact⟨by omega,by omega,λi=>by simp at i;omega⟩};{rw[au,nU,<- b.pos];simp};rw[bA,bj]at c;rcases c with c|rfl;{exact b.acU I s c};rw[ac];omega
theorem Adding.few{Z:Nat->Prop}{w wr:ω}{q base S:Nat}{cy:Δ bU}{cv Lb sv:υ}{vs:Δ υ}{Ds a:Δ (Δ (Δ aF))}{M:Δ (Δ aF)}{n:Int}{k:Nat}(b:Adding Z w wr q base S cy cv Lb sv m vs Ds a M n k)(c:1<=S)(i:Λ Ds.flatten<=64)(j:k<=100):(Ds++a).length<=1000:=by have d:=xB b.full;have e:=b.pos;have f:Λ Ds<=Λ Ds*S:=qX _ c;have g:Λ a<=Λ a*S:=qX _ c;rw[au];omega
theorem acV{wr:ω}{q base n:Nat}{sv v:υ}{vs:Δ υ}{d:Array υ}(f:Φ wr base 245 1 sv n vs)(c:wr.heap[p]?=σ (ξ d 51 (0,0)))(g:wr.grownBy b (Ω sv))(i:p≠q):(b.setCell ⟨q,1,ν⟩ v).heap[p]?=σ (ξ d 51 (0,0)):=by
 refine(aL _ _ _ _ i).trans ((g.block p (aA c) (λa=>?_)).trans c);rcases f.2 with⟨rfl,-⟩|⟨l,j,cur,rfl,-,e,-⟩
 {cases a};simp[Value.ownBlock]at a;subst a;rw[c]at e;cases e
theorem Tryz.acW:(prog.info? 245).map (λa=>(a.zero,a.size,a.bytes))=σ (σ (ψ ν 0 0),1,24):=by kernel_rfl
theorem agA{k:Nat}(a:k+p<=1000):IntKind.i64.wrap ((k:Int)+(p:Int))=(k:Int)+(p:Int):=by rw[nL];omega
theorem CW{w1:ω}{r:Nat}{a b d:υ}(e:w1.heap[r]?=σ (ξ #[m,s,c,a,b,d] u (0,0))):Ξ w1 ⟨r,0,ν⟩=σ m/\Ξ w1 ⟨r,1,ν⟩=σ s:=by simp[World.cell?,e]
theorem agB{Z:Nat->Prop}{w:ω}{q base:Nat}{cy:Δ bU}{cv sv mv:υ}{vs:Δ υ}{A:Δ (Δ (Δ aF))}{new:Δ (Δ aF)}(a:zr){f:Nat}(hN:f=Λ A.flatten)(ht:sx Z w w q base cy cv sv sv vs A f)(KR:oi a.seg A)(u:iJ (mA q sv) w mv (dq (Λ cy) new))(zH:nB cy A.flatten)(BG:nB cy new)(c1:f+Λ new<=64)(h0:0<Λ new)(hk:∀d∈cy,d.2<=2)(KF:0<Λ cy)(cU:Λ cy<=5)(vH:base<=w.heap.size) :
 Calls prog 265 #[π (σ ⟨q,0,ν⟩),mv,ι κ (Λ new),.agg (Y5 a).toArray] w λr w'=>r=τ (.tuple #[])/\∃GH Dr V,sx Z w w' q base cy cv sv GH Dr V (f+Λ new:Nat)/\oi a.seg V/\V.flatten=A.flatten++new:=by
 have qd:δ w.heap.size w (w.alloc (oO a)):=(aj _ _).alloc (ae _) _;have K:=ht.aU qd;have ar:=u.moves qd.size (λl g _=>qd.block l g);have⟨t0,N,t2⟩:=bN K.jy;have⟨i0,px,lB,ll,kV⟩:=gq Tryz.acW;have Sy:=a.s1;have co:=a.s16;have aa:=ak (az w (oO a));have HK:=ak hk;have F9:=ht.lq;unfold Y5;rcases KR.last with⟨hz,oT⟩|⟨Ds,d,P,hD,KP,c0,bd⟩
 (case' inl=>rw[<- hN]at hz;have e0:((f:Int) % (a.seg:Int))=0:=(by omega);obtain⟨M,j⟩:∃M,M=new:=⟨_,rfl⟩;obtain⟨c,Q⟩:∃c:Int,c=f:=⟨_,rfl⟩;obtain⟨Ds,ad⟩:∃Ds,Ds=A:=⟨_,rfl⟩;have F:Hid (Adding Z w (w.alloc (oO a)) q base a.seg cy cv sv sv mv vs Ds [] M c 0):=ak ⟨by rw[cM,Q,ad];exact K,by rw[j];exact ar,by rw[ad];exact oT,by simp,λD b g=>by simp at g,by simp,λ_ b g=>by simp at g⟩;have a4:Hid (nB cy M):=ak (by rw[j];exact BG);have a5:Hid (Λ M<=64/\0<Λ M):=ak (by rw[j];omega);have a2:Hid (Ds.flatten++M=A.flatten++new):=ak (by rw[j,ad]);have a1:Hid (Λ Ds.flatten<=64):=ak (by rw[ad];omega);have a7:Hid (c+Λ M=(f+Λ new:Nat)):=ak (by rw[Q,j];omega);have a6:Hid (0<=c/\c<=64):=ak (by omega);have bt:(Λ new:Int)=Λ M:=(by rw[j]);have Ss:=ak bt;clear ht KR u qd K ar zH BG hk hz oT hN j Q ad bt;go_in;go_wp2;go_quiet(fail);go_wp2;rw[Ss.J];have F:=ak (yN F.J (below_drewN (aj _ _) nq));have aa:Hid (((w.alloc (oO a)).drewN nq).heap[w.heap.size]?=σ (oO a)):=aa;obtain⟨W,hW⟩:∃W,W=(w.alloc (oO a)).drewN nq:=⟨_,rfl⟩;rw[<- hW]at F aa ⊢;obtain⟨MV,ag⟩:∃MV,MV=mv:=⟨_,rfl⟩;rw[<- ag]at F ⊢;clear hW t0 N t2 ag);case' inr=>
  have cI:((f:Int) % (a.seg:Int))=Λ d:=by rw[<- hN]at bd;omega
  have EL:Λ A=Λ Ds+1:=by rw[P];simp
  have WM:=K.own;obtain⟨b,p⟩:∃b,Λ Ds=b:=⟨_,rfl⟩;rw[EL,p]at WM;have⟨sa,x,i,b0,cK⟩:=cR WM;have cu:(b:Int)<=x:=by omega
  have⟨m,b8,c4⟩:=b0 (by omega);subst b8;rw[i]at N;have Mq:=WM;rw[i]at Mq;have DK:Λ vs=b+1:=by rw[K.uB.1,EL,p]
  obtain⟨T,R⟩:∃T,vs[b]?=σ T:=⟨vs[b]'(by omega),af _⟩;have s0:(w.alloc (oO a)).cell? ⟨m,b,ν⟩=σ T:=(Mq.cellAt b (by omega)).trans R;have⟨B,aT,Mr⟩:=K.uB.2 b T d R (by rw[P,br (by omega),p];simp);have cx:(0:Int)<Λ d:=by omega
  have cg:f=Λ Ds*a.seg+Λ d:=by rw[hN,P,kd,au,xB hD];simp
  have ci:Λ Ds.flatten=Λ Ds*a.seg:=xB hD;have cp:b<=64:=(by have:Λ Ds<=Λ Ds*a.seg:=qX _ Sy;omega);have⟨U,X,ck⟩:=aS.slice aT;subst ck;obtain⟨M,j⟩:∃M,M=d++new:=⟨_,rfl⟩;obtain⟨c,Q⟩:∃c:Int,c=(f:Int) - Λ d:=⟨_,rfl⟩;have cq:m<w.heap.size:=(by have:=(ht.own.lt m (by rw[i];rfl)).2;exact this)
  have be:=ak (λ(nq:Nat) (w2 y:ω) (av:υ) (t:δ ((w.alloc (oO a)).drewN nq).heap.size ((w.alloc (oO a)).drewN nq) w2) (h3:δ ((w.alloc (oO a)).drewN nq).heap.size w2 y) (gO:iJ (·<((w.alloc (oO a)).drewN nq).heap.size) y av (xA (dq (Λ cy) d) (dq (Λ cy) new)))=>(show(Adding Z w ((y.setCell ⟨q,1,ν⟩ (ψ (σ ⟨m,0,ν⟩) b x)).setCell ⟨q,2,ν⟩ (ι κ c)) q base a.seg cy cv sv (ψ (σ ⟨m,0,ν⟩) b x) av (vs.take b) Ds [] M c 0)/\y.heap[q]?=σ (ξ #[cv,ψ (σ ⟨m,0,ν⟩) (b+1) x,ι κ f] 244 (0,0))/\((y.setCell ⟨q,1,ν⟩ (ψ (σ ⟨m,0,ν⟩) b x)).setCell ⟨q,2,ν⟩ (ι κ c)).heap[w.heap.size]?=σ (oO a)from by
   have bx:δ (w.alloc (oO a)).heap.size (w.alloc (oO a)) ((w.alloc (oO a)).drewN nq):=below_drewN (aj _ _) nq;have hz:((w.alloc (oO a)).drewN nq).heap.size=(w.alloc (oO a)).heap.size:=rfl;rw[hz]at t h3 gO;have b9:=bx.trans (t.trans h3);have E:=K.aU b9;have a0:w.heap.size<(w.alloc (oO a)).heap.size:=by simp
   have b7:∀z∈vs.take b,jM (mA q (ψ (σ ⟨m,0,ν⟩) b x)) z:=λz hx am n cc hv u=>E.MA z (iE hx) am n cc hv (by rw[i];exact u.imp id id);have b6:wI y cy (vs.take b) Ds:=by
    refine⟨by rw[bZ,DK,p];omega,λD z I s t=>?_⟩;have hi:=(ah.mp t).1;rw[dL,aN (by omega)]at s;exact E.uB.2 D z I s (by rw[P,bF hi];exact t)
   have oN:Φ y base 245 1 (ψ (σ ⟨m,0,ν⟩) (Λ Ds) x) (Λ Ds) (vs.take b):=by
    have g:=E.own;rw[i,EL,p]at g;have:=Q7 g (dt b) (by omega);rw[lT]at this;rw[p];exact this
   rw[p]at oN;have H:=E.put (i:=1) (u:=ψ (σ ⟨m,0,ν⟩) b x) (sv2:=ψ (σ ⟨m,0,ν⟩) b x) (n2:=f) (vs2:=vs.take b) (Ds2:=Ds) rfl (by rw[p];exact oN) b6 (λab hg=>.inl (by rw[i];exact hg)) (by have:=E.off;rw[i]at this;exact this) (λam n cc hv u=>E.OW am n cc hv (by rw[i];exact u.imp id id)) b7 (λz hx=>E.zap z (iE hx));have P2:=H.put (i:=2) (u:=ι κ c) (sv2:=ψ (σ ⟨m,0,ν⟩) b x) (n2:=c) (vs2:=vs.take b) (Ds2:=Ds) rfl H.own H.uB H.row H.off H.OW H.MA H.zap;have K7:∀D v (z:ω),(z.setCell ⟨q,D,ν⟩ v).heap[w.heap.size]?=z.heap[w.heap.size]?:=λD v z=>aL _ _ _ _ (show w.heap.size≠q by omega);refine⟨⟨by rw[cM];exact P2,?_,hD,by simp,λD b g=>by simp at g,by simp,λ_ b g=>by simp at g⟩,by have:=E.jy;rw[i]at this;exact this,?_⟩
   . rw[j,<- Gb]
     have b4:=(gO.sub (M':=mA q (ψ (σ ⟨m,0,ν⟩) b x)) (λl u=>by rcases u with I|I;omega;simp[Value.ownBlock]at I;omega));have cn:=b4.moves (w':=y.setCell ⟨q,1,ν⟩ (ψ (σ ⟨m,0,ν⟩) b x)) (by simp[World.setCell]) (λl hh u=>aL _ _ _ _ (show l≠q fromλI=>u (.inl I)));exact cn.moves (by simp[World.setCell]) (λl hh u=>aL _ _ _ _ (show l≠q fromλI=>u (.inl I)))
   . rw[K7,K7]
     exact((h3.block _ a0).trans ((t.block _ a0).trans (bx.block _ a0))).trans (az w (oO a))))
  have ba:=(λnq=>Ec (w:=(w.alloc (oO a)).drewN nq) (aS.aU aT (below_drewN (aj _ _) nq) (ae _)) Mr (by have:=Mr.1;rw[bk]at this;omega));have a3:=(λnq (w2:ω) v1 G (t:δ ((w.alloc (oO a)).drewN nq).heap.size ((w.alloc (oO a)).drewN nq) w2) (s:rJ w2 ((w.alloc (oO a)).drewN nq).heap.size v1 G (dq (Λ cy) d))=>UT (sv:=mv) (S:=dq (Λ cy) new) s (λw' g=>ar.batch.aU ((below_drewN (aj _ _) nq).trans (t.trans g)) (ae _)) (by rw[cG,cG]) (by rw[cG];omega) (λD am l ha hb=>by have e1:=o5 (aq ha);have e2:=o5 (aq hb);omega) t.size);have a4:Hid (nB cy M):=ak (by rw[j];intro r C;rw[bA]at C;rcases C with C|C;exact zH r (by rw[P,kd];simp[C]);exact BG r C);have a5:Hid (Λ M<=64/\0<Λ M):=ak (by rw[j,au];omega);have a2:Hid (Ds.flatten++M=A.flatten++new):=ak (by rw[j,P,kd];simp);have a1:Hid (Λ Ds.flatten<=64):=ak (by omega);have a7:Hid (c+Λ M=(f+Λ new:Nat)):=ak (by rw[Q,j,au];omega);have a6:Hid (0<=c/\c<=64):=ak (by omega);have Ss:Hid ((Λ new:Int)+Λ d=Λ M):=ak (by rw[j,au];omega);have b2:Hid ((f:Int) - Λ d=c):=ak Q.symm;have cN:(Λ d:Int)<=f:=by omega
  clear ht KR u qd K ar zH BG hk hN bd aT Mr R WM Mq EL p cg ci j Q P hD i b0;go_in;go_wp2;go_quiet(fail);go_wp2_with fail;refine(ba nq).mono ?_;rintro r w2 ⟨v1,G,rfl,Kp,cW⟩;have HJ:=(a3 nq w2 v1 G cW Kp);obtain⟨fa,cs,rfl,-,-⟩:=cR Kp.row;clear Kp a3 ba;go_wp2_with fail;refine HJ.mono ?_;rintro r y ⟨av,rfl,gO,bv⟩;have⟨bo,Le,bg⟩:=be.J nq w2 y av cW bv gO;have⟨t0,N,t2⟩:=bN Le;have cf:=jd Le 1;have bl:=jd Le 2;have F:=ak bo;have aa:=ak bg;obtain⟨xa,ca,rfl⟩:=gO.batch.slice;clear bo bg Le gO bv be HJ;go_wp2;rw[Ss.J,b2.J];obtain⟨W,hW⟩:∃W,W=(y.setCell ⟨q,1,ν⟩ (ψ (σ ⟨m,0,ν⟩) b x)).setCell ⟨q,2,ν⟩ (ι κ c):=⟨_,rfl⟩;rw[<- hW]at F aa ⊢;obtain⟨MV,ag⟩:∃MV,MV=Value.slice xa (xA (dq (Λ cy) d) (dq (Λ cy) new)).length ca:=⟨_,rfl⟩;rw[<- ag]at F ⊢;clear hW t0 N t2 cf bl ag
 all_goals
  go_loopw[10] (λd wr=>∃(k:Nat) (ax:υ) (G:Δ υ) (Y:Δ (Δ (Δ aF))),d=ι κ k/\Hid (Adding Z w wr q base a.seg cy cv sv ax MV G Ds Y M c k)/\Hid (wr.heap[w.heap.size]?=σ (oO a))) (λd _=>100 - (intOf d).toNat);case atStart=>exact⟨0,_,_,[],rfl,F,aa⟩
  case round=>
   obtain⟨k,ax,G,Y,rfl,HA,HO⟩:=hrel;have⟨Gt,c2⟩:=a5.J;by_cases oY:k<Λ M
   .have DI:(k:Int)<Λ M:=(by omega);have e:=HA.J;have⟨o0,o1⟩:=CW HO.J;have⟨t0,N,t2⟩:=bN e.tab.jy;obtain⟨l,hb⟩:∃l,l=min (k+a.seg) (Λ M):=⟨_,rfl⟩;have HP:=(agx (a:=k) (b:=l) e.bat.batch (by omega) (λd hc=>by rw[o5 hc];omega) (by rw[cG];omega));have HB:=ak hb;have bz:min ((k:Int)+(a.seg:Int)) (Λ M:Int)=(l:Int):=(by omega);have cl:min (IntKind.i64.wrap ((k:Int)+(a.seg:Int))) (Λ M:Int)=(l:Int):=(by rw[show IntKind.i64.wrap ((k:Int)+(a.seg:Int))=(k:Int)+(a.seg:Int)from agA (by omega)];exact bz);have H7:Hid (l - k<=64):=ak (by omega);clear e hb;all_goals
     go_wp2_with fail;refine HP.mono ?_;rintro r w2 ⟨pv,rfl,ai,cW⟩;have ac:=yN HA.J cW;have⟨t0,N,t2⟩:=bN ac.tab.jy;have an:=(cW.block _ (aA HO.J)).trans HO.J;have⟨o0,o1⟩:=CW an;have⟨pa,cb,i⟩:=ai.slice;unfold Ft at i;rw[bk,cG]at i;subst i;have Uy:=aP (aj w2.heap.size w2);rw[Jj]at ai;obtain⟨ch,ao⟩:∃ch,ch=(M.drop k).take (l - k):=⟨_,rfl⟩;rw[<- ao]at ai;have O:=yN ac Uy;have b5:=(US (p:=a.pk) O.tab.jy O.tab.Lc (ai.aU Uy (ae _)) (cG _ _) HK.J (λD ce kk s t=>agy (λr C=>a4.J r (by rw[ao]at C;exact mZ (iE C))) s t) (λce hc=>by have:=H7.J;rw[o5 hc,ao,bZ];omega) (by omega) (by have:=a.p3;omega) (by rw[cG];omega));have bi:=O.tab.own;obtain⟨c5,c6,i,cd,-⟩:=cR bi;subst i;have lj:=ak (λo T B (s:δ w2.drew.heap.size w2.drew o) t h3 ab ap w5 h4 h5 h6=>O.step (w4:=o) (w5:=w5) (u:=T) (ss:=B) (ch:=ch) (g:=ab) (cap:=ap) s t h3 (by rw[ao,HB.J]) oY h4 h5 h6 KF Sy);have a9:=ak (λo (s:δ w2.drew.heap.size w2.drew o)=>And.intro (O.tab.aU s).jy (And.intro (O.tab.aU s).own (And.intro (show w2.heap.size<=o.heap.size from s.size) ((s.block _ (aA an)).trans an))));have cS:base<=w2.heap.size:=(by have:=ac.tab.keep.size;omega)
     have Bw:=ac.few Sy a1.J (by omega);obtain⟨nn,bH⟩:∃nn,(Ds++Y).length=nn:=⟨_,rfl⟩;rw[bH]at lj a9 N Bw;clear ac ai HP O bi Uy bH cd an bz cl;go_wp2;go_region_law(first
      | (refine lL rfl 274 _ _ rfl call274 #[π (σ ⟨q,0,ν⟩),ψ pa (Λ cy) cb,ι κ a.pk] (by first|(simp[Act.eval];done)|(simp[Act.eval,Act.put];done)|rfl) _ b5 ?_;rintro r o ⟨T,B,rfl,R,Mr,qP⟩;refine⟨_,rfl,?_⟩;obtain⟨WN,b1,qY,aC⟩:=a9.J o qP;obtain⟨U,X,rfl,-,-⟩:=cR R;obtain⟨u0,u1,u2⟩:=bN WN;obtain⟨y0,y1,y2⟩:=bN ((dA o (ξ #[ψ U (Λ B) X] 245) _ (aA WN)).trans WN);have HU:=ak R;have Gw:=ak Mr;have PL:=ak qP;have a8:=ak (b1.alloc (ξ #[ψ U (Λ B) X] 245));have vB:=ak (World.news_of_block (az o (ξ #[ψ U (Λ B) X] 245)));have bb:Hid ((o.alloc (ξ #[ψ U (Λ B) X] 245)).heap.size=o.heap.size+1):=ak (by simp);have b3:=ak ((dA o (ξ #[ψ U (Λ B) X] 245) _ (aA aC)).trans aC);clear R Mr qP b1 WN aC)
      | (refine step_append_lies _ rfl (.tmp 77) (.tmp 83) 242 rfl base 245 i0 _ 1 24 underlying242 px lB ll kV rfl (by decide) _ _ _ (by simp[Act.eval]) a8.J ⟨o.heap.size,0,ν⟩ 1 1 [ψ U (Λ B) X] (by simp[Act.eval]) rfl vB.J (by simp[Value.oneCell']) (by decide) (by unfold maxLen;omega) (by omega) (by rw[bb.J];omega) (o.heap.size+1) bb.J ?_;intro ab ap w5 dy eo ij _;obtain⟨bn,d1,fz⟩:=lj.J o _ B PL.J HU.J Gw.J ab ap w5 dy eo ij;have qe:=acV (q:=q) (v:=ψ (σ ⟨ab,0,ν⟩) (nn+1) ap) a8.J b3.J eo (by omega);obtain⟨p0,p1⟩:=CW qe;have Yk:=ak qe;have al:=ak bn;clear bn dy eo ij qe))
     all_goals (try go_wp2);go_roundw;(case rel=>first|exact⟨k+a.seg,by push_cast;rfl,_,_,_,al⟩|exact⟨k+a.seg,_,_,_,by push_cast;rfl,al,Yk⟩|exact⟨k+a.seg,by push_cast;rfl,_,_,_,al,Yk⟩|exact⟨k+a.seg,by push_cast;rfl,⟨_,_,_,al⟩,Yk⟩);case measure=>simp[intOf];omega
   have DI:¬(k:Int)<Λ M:=(by omega);have e:=HA.J;have⟨t0,N,t2⟩:=bN e.tab.jy;have bl:=jd e.tab.jy 2;have⟨c3,cr⟩:=a6.J;have hE:Y.flatten=M:=(by rw[e.done,aQ (by omega)])
   have bc:=e.tab.put (i:=2) (u:=ι κ (c+Λ M)) (sv2:=ax) (n2:=c+Λ M) (vs2:=G) (Ds2:=Ds++Y) rfl e.tab.own e.tab.uB e.tab.row e.tab.off e.tab.OW e.tab.MA e.tab.zap;have Jk:Hid (∃GH Dr V,sx Z w (wr.setCell ⟨q,2,ν⟩ (ι κ (c+Λ M))) q base cy cv sv GH Dr V (f+Λ new:Nat)/\oi a.seg V/\V.flatten=A.flatten++new):=ak ⟨ax,G,Ds++Y,by rw[<- a7.J];exact bc,λD b p=>by
    rw[lh]at p;split at p
    . have:=e.full b (aq p)
      exact⟨by omega,by omega,λ_=>this⟩
    . have:=e.each _ b p
      exact⟨this.1,this.2.1,λg=>this.2.2 (by rw[au]at g;omega)⟩,by rw[kd,hE];exact a2.J⟩
   clear e hE bc;go_wp2;go_end0;exact⟨rfl,Jk.J⟩
theorem Y3(n:Nat):(madeCells (Value.int κ 0).cells n).toList=List.replicate n (ι κ 0):=by have:=A5 (f:=λa:υ=>[a]) (k:=1) (λ_=>rfl) (ι κ 0) (ι κ 0) rfl (by decide) n;simpa using this
theorem Q6(n:Nat)(D:n<=1000)(w:ω):Calls prog 157 #[ι κ n] w λr w'=>∃v,r=τ v/\Φ w' w.heap.size 3 1 v n ((List.range n).map oH)/\δ w.heap.size w w':=by
 have⟨y,p,m,o,l⟩:=gq Tryz.Eg;go_in;go_wp2_with(at_make;refine eV _ rfl _ _ 36 rfl w.heap.size 3 y _ 1 underlying36 p m o _ _ _ _ n rfl rfl rfl rfl (by rw[l];omega) (by unfold maxLen;omega) (by simp) ?_;intro w1 d j);rw[lT,Y3]at d;have z:Hid (δ w.heap.size w w1):=ak ((aj _ _).grown j (ae _) (by simp));have t:=ak d;clear d j p m o l;go_wp2;go_loopw[9] (λc wr=>∃a:Nat,a<=n/\c=ι κ a/\Hid (Φ wr w.heap.size 3 1 (ψ (σ ⟨w.heap.size,0,ν⟩) n n) n ((List.range a).map oH++List.replicate (n - a) (ι κ 0)))/\Hid (δ w.heap.size w wr)) (λc _=>n - (intOf c).toNat);case atStart=>exact⟨0,aB _,rfl,by simpa using t,z⟩
 case round=>obtain⟨a,C,rfl,g,s⟩:=hrel;by_cases i:a<n;{have B:=aX.2 i;have b:=g.J;have fz:=b.frozenAt a;have x:=b.cellAt a (by omega);rw[br (by simp),dO,aN (by simp;omega)]at x;have f:=(b.stored a (ι κ a)).1;rw[Ed (by simp) i]at f;have A:=ak (show(wr.setCell ⟨w.heap.size,a,ν⟩ (ι κ a)).ownsRow w.heap.size 3 1 (ψ (σ ⟨w.heap.size,0,ν⟩) n n) n ((List.range (a+1)).map oH++List.replicate (n - (a+1)) (ι κ 0))from by rw[qz,cT];exact f);clear b f;go_wp2;exact⟨⟨a+1,by omega,by go_num,A,ak (s.J.setCell (ae _) _)⟩,by simp[intOf];omega⟩};obtain rfl:a=n:=(by omega);have e:=g.J;rw[dQ,eR,cM]at e;have u:=ak e;clear e;go_wp2;go_ret;exact⟨_,rfl,u.J,s.J⟩
theorem fN.set{lo r i:Nat}{d:Δ aF->Prop}{a:Δ aF->fE}(f:fN b lo s d a)(u:r<lo):fN (b.setCell ⟨r,i,ν⟩ m) lo s d a:=by have⟨n,t,p,o,l⟩:=f;refine⟨n,t,p,o,λe c=>l e ⟨?_,λk g j=>?_⟩⟩;{have:=c.1;simpa[World.setCell]using this};exact(c.2 k g (by simpa[World.setCell]using j)).trans (aL _ _ _ _ (show k≠r by omega))
theorem Jf{w:ω}{q:Nat}{n:Int}{cv sv:υ}{cy:Δ bU}(i:w.heap[q]?=σ (ξ #[cv,sv,ι κ n] 244 (0,0)))(C:eK w cv cy)(h5:Λ cy<=5)(x:Δ aF->Prop) :
 Calls prog 111 #[π (σ ⟨q,0,ν⟩)] w λr w'=>∃v l lo,r=τ (χ #[v,l])/\lR w' v (List.range (Λ cy))/\fN w' lo l x (λ_=>.inl (ox 1))/\w.heap.size<lo/\δ w.heap.size w w':=by
 have⟨X,nj,R⟩:=C.slice;subst R;have y:δ w.heap.size w (w.alloc (ξ #[ψ ν 0 0,.nilFunc] 174)):=(aj _ _).alloc (ae _) _;have⟨t0,t1,t2⟩:=bN ((y.block q (aA i)).trans i);have V:=aA i;have G:=ak (az w (ξ #[ψ ν 0 0,.nilFunc] 174));clear i C;go_in;go_wp21;refine(Q6 (Λ cy) (by omega) _).mono ?_;rintro r w1 ⟨v,rfl,p,o⟩;obtain⟨j,g,rfl,-,-⟩:=cR p;have z:=y.trans (o.mono y.size);have B:=(Av (w:=w1) (lo:=w1.heap.size) (fv:=.func (.func 159) #[] #[]) (ok:=x) (G:=λ_=>ox 1) ⟨_,_,rfl,call159,λa b H Y r _ _ _=>aoW H r a⟩ (ae _));have m:=ak ((o.block _ (by simp)).trans G.J);clear o;go_wp21;refine B.mono ?_;rintro r w2 ⟨l,rfl,D,e⟩;have c:=(e.block _ (aA m.J)).trans m.J;have⟨T,U⟩:=fW c;have z0:=jd c 0;have z1:=jd c 1;have A:=z.trans (e.mono z.size);have u:w.heap.size<w1.heap.size:=aA m.J;have F:=ak (λd a=>(show δ w.heap.size w ((w2.setCell ⟨w.heap.size,0,ν⟩ d).setCell ⟨w.heap.size,1,ν⟩ a)/\lR ((w2.setCell ⟨w.heap.size,0,ν⟩ d).setCell ⟨w.heap.size,1,ν⟩ a) (ψ j (Λ cy) g) (List.range (Λ cy))/\fN ((w2.setCell ⟨w.heap.size,0,ν⟩ d).setCell ⟨w.heap.size,1,ν⟩ a) w1.heap.size l x (λ_=>.inl (ox 1))from by
  refine⟨(A.setCell (ae _) _).setCell (ae _) _,?_,(D.set u).set u⟩;have O:=cO p e;have E:∀k,(Value.slice j (Λ cy) g).ownBlock=σ k->k≠w.heap.size:=λk b f=>by have:=(p.lt k b).1;simp at this;omega
  have P:=eG O (grownBy_setCell w2 ⟨w.heap.size,0,ν⟩ d) (λk b f=>E k f (by cases b;rfl));have Q:=eG P (grownBy_setCell _ ⟨w.heap.size,1,ν⟩ a) (λk b f=>E k f (by cases b;rfl));have:=aS.dE Q;unfold lR;rw[jZ];exact this))
 obtain⟨s,t,rfl,-⟩:=D;clear e c A B;have aa:=mq s t;go_wp2;(try simp only[Exit.inBlock,Exit.then]);refine aE (v:=χ #[ψ j (Λ cy) g,.func (.func s) #[] t]) (by simp[results,results111,go_sem,T,U];try rfl) rfl ?_;have⟨I,K,N⟩:=F.J (ψ j (Λ cy) g) (.func (.func s) #[] t);exact⟨_,_,w1.heap.size,rfl,K,N,u,I⟩
def nI(r:Nat)(cv:υ)(vs:Δ υ)(b:Nat):Prop:=b=r\/Ω cv=σ b\/∃u∈vs,Ω u=σ b
structure lY (w1 wr:ω)(r base:Nat)(kv cv:υ)(Jl vs:Δ υ)(L:Δ (Δ aF))(k:Int):Prop where
 jy:wr.heap[r]?=σ (ξ #[kv,cv,ι κ k] 185 (0,0))
 own:rJ wr base cv vs L
 fresh:∀u∈vs,∀g,Ω u=σ g->(∃u0∈Jl,Ω u0=σ g)\/w1.heap.size<=g
 keep:bu (λb=>b<w1.heap.size/\¬nI r cv Jl b) w1 wr
 NW:Ω cv≠σ r
 Jm:∀u∈vs,Ω u≠σ r
 lr:r<w1.heap.size
section
variable {w1 wr w2:ω} {r base:Nat} {kv cv:υ} {Jl vs:Δ υ} {L:Δ (Δ aF)} {k:Int}
theorem rJ.aU{w w':ω}{v:υ}(a:rJ w base v vs L)(b:δ w.heap.size w w'):rJ w' base v vs L:=⟨cO a.row b,a.each.aU b,a.off⟩
theorem lY.aU(a:lY w1 wr r base kv cv Jl vs L k)(b:δ wr.heap.size wr w2):lY w1 w2 r base kv cv Jl vs L k:=
 ⟨(b.block r (aA a.jy)).trans a.jy,a.own.aU b,a.fresh,a.keep.trans ⟨b.os,b.tape,b.output,b.size,λc d=>b.block c (aw d.1 a.keep.size)⟩,a.NW,a.Jm,a.lr⟩
theorem lY.old(a:lY w1 wr r base kv cv Jl vs L k)(b:p<w1.heap.size)(c:¬nI r cv Jl p):wr.heap[p]?=w1.heap[p]?:=a.keep.block p ⟨b,c⟩
theorem lY.UW{n B:Nat}(b:lY w1 wr r base kv (ψ (σ ⟨i,0,ν⟩) n B) Jl vs L k)(I:Λ L=n){d:Nat}{f:Δ aF}{c:aF}(D:vs[d]?=σ m)(T:L[d]?=σ f){w3:ω}{g gcap:Nat}{o:Obj}
 (R:Φ w3 base 263 3 (ψ (σ ⟨g,0,ν⟩) (Λ f+1) gcap) (Λ f+1) (bW f++fD c)) (t:(wr.alloc o).grownBy w3 (Ω m)) (G:Ω m=σ g\/g=wr.heap.size+1) :
 lY w1 (w3.setCell ⟨i,d,ν⟩ (ψ (σ ⟨g,0,ν⟩) (Λ f+1) gcap)) r base kv (ψ (σ ⟨i,0,ν⟩) n B) Jl (vs.set d (ψ (σ ⟨g,0,ν⟩) (Λ f+1) gcap)) (L.set d (f++[c])) k/\(∃e,Ξ w3 ⟨i,d,ν⟩=σ e)/\w3.frozen? ⟨i,d,ν⟩=false/\w3.heap[r]?=σ (ξ #[kv,ψ (σ ⟨i,0,ν⟩) n B,ι κ k] 185 (0,0)):=by
 have hi:d<n:=by rw[<- I];exact(ah.mp T).1
 have qd:δ wr.heap.size wr (wr.alloc o):=(aj _ _).alloc (ae _) _;have y:=b.aU qd;have Ki:=(b.own.row.lt i rfl).2;have qY:(wr.alloc o).heap.size=wr.heap.size+1:=by simp
 have ab:=(b.own.row.lt i rfl).1;have F:=aq D;have K:g≠i:=(by rcases G with a|a;{intro u;exact b.own.off d m g D a (by rw[u];rfl)};omega);have X:g≠r:=(by rcases G with a|a;{intro u;exact b.Jm m F (by rw[a,u])};have:=aA b.jy;omega);have Q:∀p e,p≠d->vs[p]?=σ e->Ω e≠σ g:=by
  intro p e C s u;rcases G with a|a
  {exact b.own.each.apart d p m e g (λa=>C a.symm) D s a u};have:=(b.own.each.lt s u).2;omega
 have E:=eG y.own.row t (λk l a=>b.own.off d m k D l (by simpa using a));rw[I]at E;have V:=(E.stored d (ψ (σ ⟨g,0,ν⟩) (Λ f+1) gcap)).1;have N:=grownBy_setCell w3 ⟨i,d,ν⟩ (ψ (σ ⟨g,0,ν⟩) (Λ f+1) gcap);have O:w3.heap[r]?=σ (ξ #[kv,ψ (σ ⟨i,0,ν⟩) n B,ι κ k] 185 (0,0)):=(t.block r (aA y.jy) (λa=>b.Jm m F a.symm)).trans y.jy;have Y:Φ w3 base 263 3 (ψ (σ ⟨g,0,ν⟩) (Λ f+1) gcap) (f++[c]).length (bW (f++[c])):=(by have a:bW (f++[c])=bW f++fD c:=(by simp[bW]);rw[a,au];exact R);have U:r≠i:=λa=>b.NW (by rw[a];rfl);refine⟨⟨(aL _ _ _ _ U).trans O,⟨by rw[eP,I];exact V,?_,λp e H j x=>?_⟩,λe s H z=>?_,?_,b.NW,λe s a=>?_,b.lr⟩,?_,E.frozenAt d,O⟩;{exact y.own.each.set (eG Y N (λk l a=>by cases l;simp[Value.ownBlock]at a;exact K a)) (λp e aa C j x=>eG (eG (y.own.each.own p e aa j x) t (λk l a=>b.own.each.apart d p m e k (λa=>C a.symm) D j l a)) N (λk l a=>by cases l;exact b.own.off p e i j a rfl)) (λp e H C j z=>by simp[Value.ownBlock]at z;subst z;exact Q p e C j)};{rw[bK]at j;split at j;{split at j;{cases j;simp[Value.ownBlock]at x;subst x;simp[Value.ownBlock];exactλa=>K a.symm};cases j};exact b.own.off p e H j x}
 .rcases iW s with s|rfl;{exact b.fresh e s H z}
  simp[Value.ownBlock]at z;subst z;rcases G with a|a
  {exact b.fresh m F g a};have:=b.keep.size;exact .inr (by omega)
 .have P:bu (λA=>A<w1.heap.size/\¬nI r (ψ (σ ⟨i,0,ν⟩) n B) Jl A) w1 w3:=y.keep.trans ⟨t.os,t.tape,t.output,t.size,λA l=>t.block A (aw l.1 y.keep.size) (λa=>by
   rcases b.fresh m F A a.symm with⟨u0,j,x⟩|u
   . exact l.2 (.inr (.inr ⟨u0,j,x⟩))
   . exact absurd l.1 (by omega))⟩
  exact P.setCell (p:=⟨i,d,ν⟩) (λl=>l.2 (.inr (.inl rfl))) _
 {rcases iW s with s|rfl;{exact b.Jm e s a};simp[Value.ownBlock]at a;exact X a};rw[E.cellAt d (by omega)];exact⟨_,af (by have:=E.1;omega)⟩
theorem lY.count(a:lY w1 wr r base kv cv Jl vs L k)(d:Int):lY w1 (wr.setCell ⟨r,2,ν⟩ (ι κ d)) r base kv cv Jl vs L d:=by have e:=grownBy_setCell wr ⟨r,2,ν⟩ (ι κ d);refine⟨bq wr r 2 _ _ _ a.jy,⟨eG a.own.row e (λi c b=>by cases c;exact a.NW b),a.own.each.kept e (λl j i c f b=>by cases c;exact a.Jm j (aq f) b),a.own.off⟩,a.fresh,a.keep.setCell (λg=>g.2 (.inl rfl)) _,a.NW,a.Jm,a.lr⟩
end
theorem iJ.avW{M:Nat->Prop}{w:ω}{v:υ}{d:Δ (Δ aF)}(i:iJ M w v d){f:Δ aF}(g:d[p]?=σ f):∃b c e a,v=ψ (σ ⟨b,c,ν⟩) (Λ d) e/\b<w.heap.size/\Ξ w ⟨b,c+p,ν⟩=σ a/\dW w a f/\jM M a:=by obtain⟨-,vs,j,l⟩:=i;have⟨a,m,o,s⟩:=l p f g;obtain⟨b,c,e,u,-,t,x⟩:=j.at (bY (aB _) (ah.mp g).1);exact⟨b,c,e,a,u,t,x p a m,o,s⟩
theorem agI{M:Nat->Prop}{w:ω}{v:υ}{L:Δ (Δ aF)}{b c:Nat}(hM:∀c,M c->c<w.heap.size)(m:iJ M w v L)(Mv:b<c)(O:∀a∈L,c<=Λ a)(h5:Λ L<=1000):Calls prog 114 #[v,ι κ b,ι κ c] w λr w'=>∃v,r=τ v/\iJ M w' v (Ft b c L)/\δ w.heap.size w w':=by
 have⟨i0,V,T,U,R⟩:=gq Tryz.sN;have Y:=ak O;have⟨va,eH,B⟩:=m.batch.slice;subst B;clear O;go_in;go_wp2_with(at_make;refine eV _ rfl _ _ 183 rfl w.heap.size 247 i0 _ 1 underlying183 V T U _ _ _ _ (Λ L) rfl rfl rfl rfl (by rw[R];omega) (by unfold maxLen;omega) (by simp) ?_;intro w1 y N);rw[lT,uI]at y;have iP:Hid (δ w.heap.size w w1):=ak ((aj _ _).grown N (ae _) (by simp));have HO:=ak y;clear y N V T U R;go_wp2;go_loopw[14] (λa wr=>∃(d:Nat) (vs:Δ υ),d<=Λ L/\a=ι κ d/\(Λ vs)=d/\Hid (Φ wr w.heap.size 247 1 (ψ (σ ⟨w.heap.size,0,ν⟩) (Λ L) (Λ L)) (Λ L) (vs++List.replicate (Λ L - d) sM))/\Hid (∀(e:Nat) (g:υ) (a:Δ aF),vs[e]?=σ g->L[e]?=σ a->dW w g (Je b c a)/\jM M g)/\Hid (δ w.heap.size w wr)) (λa _=>Λ L - (intOf a).toNat);case atStart=>exact⟨0,[],aB _,rfl,rfl,by rw[rW,gI];exact HO,ak (λe g a h=>by simp at h),iP⟩
 case round=>
  obtain⟨d,vs,hi,rfl,t,H,u,s⟩:=hrel;by_cases x:d<Λ L;{have gY:=aX.2 x;obtain⟨a,p⟩:∃a,L[d]?=σ a:=⟨L[d],af x⟩;have uq:=Y.J a (aq p);have⟨ac,ad,am,g,B,QT,K,l,P⟩:=m.avW p;cases B;have c0:=(s.J.cell (p:=⟨ac,ad+d,ν⟩) QT).trans K;obtain⟨X,Q⟩:∃X,a[b]?=σ X:=⟨a[b]'(by omega),af _⟩;obtain⟨z,G,j,rfl,-⟩:=l.get Q;have Ib:Λ a<=j:=(by rcases l.2 with⟨hz,-⟩|⟨_,_,_,m,hn,-⟩;{omega};cases m;exact hn);have aa:=ak (show dW w (ψ (σ ⟨z,G+b*3,ν⟩) (c - b) (j - b)) (Je b c a)/\jM M (ψ (σ ⟨z,G+b*3,ν⟩) (c - b) (j - b))from⟨l.cut Mv uq,λag n a E C=>by cases E;exact P _ _ _ rfl C⟩);have mo:(c:Int)<=Λ a:=(by omega);have ai:(c:Int)<=j:=(by omega);have al:(b:Int)<=c:=(by omega);have ab:=ak p;have o:=H.J;have fz:=o.frozenAt d;have d1:=o.cellAt d (by omega);rw[br (by omega),dO,aN (by omega)]at d1;have F:=(o.stored d (ψ (σ ⟨z,G+b*3,ν⟩) (c - b) (j - b))).1;rw[Ed t x]at F;have lj:=ak F;clear p l P Q o K F;go_wp2;refine⟨⟨d+1,vs++[_],by omega,by go_num,by simp[t],lj,ak (λe g a i A=>?_),ak (s.J.setCell (ae _) _)⟩,by simp[intOf];omega⟩;rw[lh]at i;split at i;{exact u.J e g a i A};have f:e=d:=(by have:=(ah.mp i).1;simp at this;omega);subst f;rw[t,dQ]at i;cases i;rw[ab.J]at A;cases A;exact aa.J}
  obtain rfl:d=Λ L:=by omega
  have D:=H.J;rw[dQ,eR,cM]at D;have HR:Hid (iJ M wr (ψ (σ ⟨w.heap.size,0,ν⟩) (Λ L) (Λ L)) (Ft b c L)):=ak (by
   refine⟨λag n a E C=>by cases E;have:=hM _ C;simp at this,vs,by unfold Ft;rw[bk];exact aS.dE D,λe a f=>?_⟩;unfold Ft at f;rw[bp]at f
   cases hc:L[e]? with
   |none=>rw[hc]at f;cases f
   |some I=>
     rw[hc]at f
     cases f
     have Gu:=(ah.mp hc).1;exact⟨vs[e],af (by omega),aS.aU (u.J e _ I (af (by omega)) hc).1 s.J (ae _),(u.J e _ I (af (by omega)) hc).2⟩)
  clear D;go_wp2;go_ret;exact⟨_,rfl,HR.J,s.J⟩
theorem ahq(n:Int)(w:ω):Calls prog 16 #[ι κ n] w λr w'=>r=τ (ι κ n)/\w'=w:=by go_in;go_wp2;go_ret;exact⟨rfl,rfl⟩
theorem Gn(d b e a:Int)(c push:Bool)(w:ω):Calls prog 14 #[χ #[ι κ d,ι κ b,ι κ e,.bool c,.bool push,ι κ a]] w λr w'=>r=τ (χ #[ι κ d,ι κ b,ι κ e,.bool c,.bool push,ι κ a])/\δ w.heap.size w w':=by
 go_in;go_wp2
 first
 | (go_returns;exact⟨rfl,by repeat(first|exact aj _ _|refine fx ?_ (by simp) _|refine gw ?_ (by simp) _)⟩)
 | (go_ret;exact⟨rfl,by repeat(first|exact aj _ _|refine fx ?_ (by simp) _|refine gw ?_ (by simp) _)⟩)
