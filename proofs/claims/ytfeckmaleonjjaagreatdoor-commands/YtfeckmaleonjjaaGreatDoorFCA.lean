import Derived.Test.YtfeckmaleonjjaaGreatDoorFAC
import Derived.Deep.AppendLies
set_option maxHeartbeats 0
set_option maxRecDepth 100000
namespace Go.Proofs.YtfeckmaleonjjaaGreatDoor
open Go.World renaming ownsRow→Φ
open Go.World renaming cell?→Ξ
open Go.Value renaming ownBlock→Ω
open List renaming length→Λ
open Go.RowKit
open _root_.Go.Proofs.Tryz
open Option renaming some→σ,none→ν
open Go.IntKind renaming i64→κ
open Go.Ending renaming returned→τ
open Go.Obj renaming cells→ξ
open Go renaming World→ω,Value→υ
open Go.RowKit renaming Below→δ
open Go.Value renaming int→ι,string→θ,slice→ψ,pointer→π,agg→χ
variable{p u z P:Nat}{m:Δ Nat}{x j X:TypeId}{l b y M:υ}{i o V:ω}{t:Nat->Prop}{r:Bool}{s:Δ (Nat×Nat)}{g:Program}{c:Array υ}{d:Γ}{e:Obj}
theorem Tryz.abf:(prog.info? 207).map (λb=>(b.zero,b.size,b.bytes))=σ (σ (χ #[θ ByteArray.empty,ι κ 0,ι κ 0,ι κ 0,ι κ 0,ι κ 0,θ ByteArray.empty]),7,72):=by kernel_rfl
theorem info_parts(c:(g.info? x).map (λb=>(b.zero,b.size,b.bytes))=σ (σ l,p,u)):∃b,g.info? x=σ b/\b.zero=σ l/\b.size=p/\b.bytes=u:=by cases hi:g.info? x with|none=>rw[hi]at c;simp at c|some b=>rw[hi]at c;simp at c;exact⟨b,rfl,c.1,c.2.1,c.2.2⟩
theorem afi(n:cz):∀c∈uf n,c.oneCell'=true:=by intro c b;simp[uf]at b;rcases b with rfl|rfl|rfl|rfl|rfl|rfl|rfl<;>rfl
theorem jz.ans{j:Nat->Prop}{w W g:ω}{d:Nat}{s:gN}{x:aD}{e:Δ cz}{n:cz}{c m:Nat}(b:jz j w d s x e)(l:δ w.heap.size w W)(N:W.heap.size=w.heap.size+2)
 (K:Φ g 0 207 7 (ψ (σ (Ad c 0)) (Λ e+1) m) (Λ e+1) (kZ e++uf n)) (E:W.grownBy g (Ω s.gp)) (A:Ω s.gp=σ c\/c=w.heap.size+2) :
 jz j (g.setCell (Ad d 19) (ψ (σ (Ad c 0)) (Λ e+1) m)) d { s with gp:=ψ (σ (Ad c 0)) (Λ e+1) m } x (e++[n])/\
 bu j w (g.setCell (Ad d 19) (ψ (σ (Ad c 0)) (Λ e+1) m)):=by have F:=b.pen.lt;have C:c≠d:=(by rcases A with p|p;{intro o;subst o;exact b.apart p};omega);have I:¬j c:=(by rcases A with p|p;{exact b.kv c p};intro i;have:=b.old c i;omega);have G:bu j w W:=bu.uN ⟨l.os,l.tape,l.output,l.size,λk i _=>l.block k i⟩ b.old;have D:bu j w g:=G.grown E (λk i=>by have:=b.old k i;omega) (λk o=>b.kv k o);have t:=D.setCell (p:=(Ad d 19)) b.kp (ψ (σ (Ad c 0)) (Λ e+1) m);have H:uO g d s:=b.pen.kY ((E.block d (by omega) (λo=>b.apart o.symm)).trans (l.block d F));have L:Laid g:=(by intro r y u;exact(D.cell (p:=(Ad 0 r)) b.k0).trans (b.laid r y u));refine⟨⟨H.set 19 _ (by simp[mM]),?_,b.p0,b.DC,b.pos,b.tk,b.tn,b.tp,?_,?_,?_,b.k0,b.kp,?_,?_⟩,t⟩;{intro r y u;exact(t.cell (p:=(Ad 0 r)) b.k0).trans (b.laid r y u)};{have:=b.mode;cases x<;>exact this};{rw[au,Pg];exact K.kept (grownBy_setCell g (Ad d 19) _) (.inr (by simp[Value.ownBlock,C]))};{simp[Value.ownBlock,C]};{intro M z;simp[Value.ownBlock]at z;subst z;exact I};intro k i;exact aw (b.old k i) t.size
def abg(x:cz):υ:=χ #[θ x.op,ι κ x.pl,ι κ x.first,ι κ x.a,ι κ x.b,ι κ x.n,θ x.s]
theorem V0{o:Nat->Prop}{w:ω}{b:Nat}{e:gN}{u:aD}{i:Δ cz}(c:jz o w b e u i)(n:cz)(T:Λ i<=1000):Calls prog 121 #[π (σ (Ad b 0)),abg n] w λP w'=>
 P=τ (ι κ (Λ i))/\∃y,jz o w' b y u (i++[n])/\Rest e y/\bu o w w':=by have⟨I,H,L,M,K⟩:=info_parts Tryz.abf;have E:Ξ w (Ad b 19)=σ e.gp:=c.pen.cell 19;have F:=c.pen.fz 19;have t:=c.pen.lt;have U:∀d,Ω e.gp=σ d->d<w.heap.size:=λd G=>(c.own.lt d G).2;have r:=VZ w (ae2 n.op n.pl n.first n.a n.b n.n n.s) (ae2 n.op n.pl n.first n.a n.b n.n n.s);have Q:=ak (World.news_of_block r.2.2.1);have R:=ak (afi n);have C:=(((c.own.alloc (ae2 n.op n.pl n.first n.a n.b n.n n.s)).alloc (ae2 n.op n.pl n.first n.a n.b n.n n.s)).drew);have m:=r.1;have g:=ak r.2.2.2;unfold abg;go_in;go_wp2;go_region_law(refine step_append_lies _ rfl (.tmp 10) (.tmp 12) 39 rfl 0 207 I _ 7 72 underlying39 H L M K rfl (by decide) _ _ _ (by simp[Act.eval]) C (Ad (w.heap.size+1) 0) 1 1 (uf n) (by simp[Act.eval]) rfl Q.J R.J (by decide) (by unfold maxLen;omega) (by omega) (aB _) (w.heap.size+2) g.J ?_;intro d V l x j s _;have D:=ak x;have z:=ak j;have A:=ak s;have X:Ξ l (Ad b 19)=σ e.gp:=(dx (w':=l) (a:=(Ad b 19)) (j.block b (by rw[g.J];omega) (λp=>c.apart p.symm))).trans ((m.cell (p:=(Ad b 19)) t).trans E);have Y:l.frozen? (Ad b 19)=false:=(dI (w':=l) (a:=(Ad b 19)) (j.block b (by rw[g.J];omega) (λp=>c.apart p.symm))).trans ((m.frozen (p:=(Ad b 19)) t).trans F);clear x j s);all_goals go_wp2;go_ret;have⟨N,O⟩:=jz.ans c m g.J D.J z.J A.J;exact⟨rfl,_,N,⟨rfl,rfl,rfl,rfl,rfl,rfl,rfl,rfl,rfl,rfl,rfl,rfl⟩,O⟩
theorem DE(b:Δ cz)(a:Nat)(n:cz)(c:b[a]?=σ n):(kZ b)[a*7+2]?=σ (ι κ n.first):=by rw[Cu b a 2 (by decide),c];rfl
theorem jz.slice{w:ω}{j:gN}{m:aD}{c:Δ cz}(g:jz t w p j m c)(r:0<Λ c) :
 ∃d e,j.gp=ψ (σ (Ad d 0)) (Λ c) e/\∀b,b<Λ c*7->Ξ w (Ad d b)=(kZ c)[b]?:=by rcases g.own.2 with⟨_,o⟩|⟨d,e,_,i,_⟩;{omega};refine⟨d,e,i,λb l=>?_⟩;have:=g.own;rw[i]at this;exact this.cellAt b l
theorem ajj{w:ω}{r:gN}{m:aD}{b:Δ cz}(e:jz t w p r m b)(g:Γ)(i a d:Nat)(c:cz)(l:b[a]?=σ c)(u:Λ b<=1000):Calls prog 84 #[π (σ (Ad p 0)),θ g,ι κ i,ι κ a,ι κ d] w λo w'=>
 o=τ (ι κ (Λ b))/\∃s,jz t w' p s m (b++[⟨g,i,c.first,a,d,0,⟨#[]⟩⟩])/\Rest r s/\bu t w w':=by
 have I:a<Λ b:=(ah.mp l).1;have⟨j,x,D,C⟩:=e.slice (by omega);have F:Ξ w (Ad p 19)=σ (ψ (σ (Ad j 0)) (Λ b) x):=(e.pen.cell 19).trans (by rw[<- D];rfl);have G:Ξ w (Ad j (a*7+2))=σ (ι κ c.first):=(C _ (by omega)).trans (DE b a c l);have H:(a:Int)<Λ b:=by omega
 go_in;go_wp21;refine(V0 e ⟨g,i,c.first,a,d,0,⟨#[]⟩⟩ u).mono ?_;rintro o K ⟨rfl,E,y,z,A⟩;go_wp2;go_ret;exact⟨rfl,E,y,z,A⟩
theorem Pj{w:ω}{b:gN}{e:aD}{g:Δ cz}(c:jz t w p b e g)(y:b.deep=8):Calls prog 166 #[π (σ (Ad p 0))] w λi w'=>
 i=τ (.bool false)/\∃d,jz t w' p d (e.cQ 3) g/\Rest b d/\d.gp=b.gp/\bu t w w':=by
 have s:Ξ w (Ad p 4)=σ (ι κ b.tp):=c.pen.cell 4;have u:Ξ w (Ad p 8)=σ (ι κ b.deep):=c.pen.cell 8;have x:(8:Int)<=b.deep:=by omega
 go_in;go_wp21;refine(G4 c 3 b.tp (by decide)).mono ?_;rintro i z ⟨rfl,r,j,l,m,o⟩;go_wp2;go_ret;refine⟨rfl,r,?_,l,m,o⟩;rw[<- zV c.mode];exact j
theorem afj{w:ω}{c:gN}{d:aD}{e:Δ cz}(b:jz t w p c d e)(A:∀l C,d=.live l C->l.k.ends=false)(I:c.deep<8):Calls prog 166 #[π (σ (Ad p 0))] w λj w'=>
 j=τ (.bool true)/\∃g,jz t w' p g d.aK e/\Rest { c with deep:=c.deep+1 } g/\g.gp=c.gp/\bu t w w':=by
 have E:Ξ w (Ad p 4)=σ (ι κ c.tp):=b.pen.cell 4;have F:Ξ w (Ad p 8)=σ (ι κ c.deep):=b.pen.cell 8;have G:=b.pen.fz 8;have H:¬(8:Int)<=c.deep:=by omega
 have x:uO (w.setCell (Ad p 8) (ι κ ((c.deep:Int)+1))) p { c with deep:=c.deep+1 }:=b.pen.set 8 _ (by simp[mM]);have i:bu (Other p w) w (w.setCell (Ad p 8) (ι κ ((c.deep:Int)+1))):=(bu.refl _ _).own 8 _;have y:jz t (w.setCell (Ad p 8) (ι κ ((c.deep:Int)+1))) p { c with deep:=c.deep+1 } d e:=(by refine⟨x,b.laid.keeps i b.p0,b.p0,b.DC,b.pos,b.tk,b.tn,b.tp,?_,b.own.kept (grownBy_setCell w (Ad p 8) _) (.inr b.apart),b.apart,b.k0,b.kp,b.kv,λk z=>by simpa[World.setCell]using b.old k z⟩;have:=b.mode;cases d<;>exact this);have m:=(i.mono b.other);go_in;go_wp21;refine(G3 y A).mono ?_;rintro j K ⟨rfl,D,o,r,s,u⟩;go_wp2;go_ret;exact⟨rfl,D,o,r,s,m.trans u⟩
theorem aA{w:ω}(b:w.heap[p]?=σ e):p<w.heap.size:=(pb.mp b).1
def aS(w:ω)(size:Nat)(v:υ)(n:Nat)(xs:Δ υ):Prop:=
 Λ xs=n*size/\((n=0/\∃a c,v=ψ a 0 c)\/∃g o cap,v=ψ (σ (Ad g o)) n cap/\n<=cap/\g<w.heap.size/\∀j,j<n*size->Ξ w (Ad g (o+j))=xs[j]?)
section
variable {w w':ω} {size n B:Nat} {v:υ} {xs:Δ υ}
theorem aS.dE(b:Φ w p x size v n xs):aS w size v n xs:=by
 refine⟨b.1,?_⟩;rcases b.2 with⟨i,j⟩|⟨g,e,cur,d,s,l,o,t⟩
 {exact .inl ⟨j,ν,0,by rw[i]⟩};refine .inr ⟨g,0,e,d,o,aA l,λr m=>?_⟩;have c:=b;rw[d]at c;rw[gD];exact c.cellAt r m
theorem aS.aU(c:aS w size v n xs)(d:δ B w w')(s:w.heap.size<=B):aS w' size v n xs:=by
 refine⟨c.1,?_⟩;rcases c.2 with j|⟨b,g,i,r,p,m,l⟩
 {exact .inl j};exact .inr ⟨b,g,i,r,p,aw m d.size,λe o=>(d.cell (p:=(Ad b (g+e))) (by simp;omega)).trans (l e o)⟩
theorem aS.stays(e:aS w size v n xs)(t:w.heap.size<=w'.heap.size)(m:∀a j,v=ψ (σ a) n j->w'.heap[a.block]?=w.heap[a.block]?):aS w' size v n xs:=by
 refine⟨e.1,?_⟩;rcases e.2 with l|⟨b,c,d,g,r,s,o⟩
 {exact .inl l};refine .inr ⟨b,c,d,g,r,by omega,λi p=>?_⟩;rw[<- o i p];exact dx (w:=w) (a:=(Ad b (c+i))) (m (Ad b c) d g)
theorem aS.slice(e:aS w size v n xs):∃a b,v=ψ a n b:=by rcases e.2 with⟨g,a,d,c⟩|⟨i,j,b,c,-⟩;{exact⟨a,d,by rw[c,g]⟩};exact⟨_,b,c⟩
theorem aS.at(i:aS w size v n xs)(s:0<n):∃b e c,v=ψ (σ (Ad b e)) n c/\n<=c/\b<w.heap.size/\∀d g,xs[d]?=σ g->Ξ w (Ad b (e+d))=σ g:=by rcases i.2 with⟨r,-⟩|⟨b,e,c,o,l,m,p⟩;{omega};exact⟨b,e,c,o,l,m,λd g j=>(p d (by rw[<- i.1];exact(ah.mp j).1)).trans j⟩
end
theorem uP{α:Type}(f:α->Δ υ)(k:Nat)(hf:∀a,(f a).length=k)(b:Δ α):(b.flatMap f).length=Λ b*k:=by induction b with|nil=>simp|cons a b c=>rw[eD,au,c,hf,cw,nU];omega
theorem cV{α:Type}(f:α->Δ υ)(k:Nat)(hf:∀a,(f a).length=k)(c:Δ α){i:Nat}{a:α}(b:c[i]?=σ a){j:Nat}(d:j<k):(c.flatMap f)[i*k+j]?=(f a)[j]?:=by induction c generalizing i with|nil=>simp at b|cons g c e=>rw[eD];cases i with|zero=>(simp at b;subst b;rw[oo,gD,bF (by rw[hf];exact d)])|succ i=>rw[br (by rw[hf,nU];omega),hf,show(i+1)*k+j - k=i*k+j by rw[nU];omega];exact e (by simpa using b)
theorem aa2{α:Type}(f:α->Δ υ)(k:Nat)(hf:∀a,(f a).length=k)(b:Δ α){a:α}(c:p<Λ b):(b.set p a).flatMap f=(b.flatMap f).take (p*k)++f a++(b.flatMap f).drop (p*k+k):=by induction b generalizing p with|nil=>simp at c|cons g b e=>cases p with|zero=>(rw[iB,eD,eD,oo,gD,mC,gI,List.drop_append_of_le_length (by rw[hf];exact ae _),rR (by rw[hf];exact ae _),gI])|succ p=>have d:(p+1)*k=(f g).length+p*k:=(by rw[hf,nU];omega);rw[oq,eD,eD,e (by simpa using c),d,List.take_length_add_append,iH,List.drop_length_add_append];simp[List.append_assoc]
section
variable {α:Type} {f:α->Δ υ} {k:Nat} (hf:∀a,(f a).length=k)
include hf
theorem A5(a:α)(e:υ)(l:e.cells.toList=f a)(j:0<k)(n:Nat):(madeCells e.cells (n*k)).toList=(List.replicate n a).flatMap f:=by
 have d:e.cells.size=k:=by rw[<- dF,l,hf]
 apply dr;intro b;by_cases i:b<n*k;{have m:b / k<n:=(by rw[Nat.div_lt_iff_lt_mul j];exact i);have c:=Nat.mod_lt b j;have g:=cV f k hf (List.replicate n a) (i:=b / k) (a:=a) (by rw[dO,aN m]) c;rw[show b / k*k+b % k=b by rw[Nat.mul_comm];exact Nat.div_add_mod b k]at g;rw[g,<- l];simp[madeCells,i,d];rw[getElem!_pos _ _ (by rw[d];exact c),Array.getElem?_eq_getElem (by rw[d];exact c)]};rw[bM (by rw[dF,size_madeCells];omega),bM (by rw[uP f k hf,ji];omega)]
theorem afb{c:Δ α}{a:α}(j:p<Λ c){e:Δ υ}(m:∀b,b<k->e[p*k+b]?=(f a)[b]?)(i:∀b,b<p*k\/p*k+k<=b->e[b]?=(c.flatMap f)[b]?):e=(c.set p a).flatMap f:=by
 have o:=uP f k hf c;have r:p*k+k<=Λ c*k:=by have:=iC k (Nat.succ_le_of_lt j);rw[rS]at this;exact this
 rw[aa2 f k hf c j];apply dr;intro b;have d:((c.flatMap f).take (p*k)).length=p*k:=by rw[bZ,o];omega
 by_cases g:b<p*k;{rw[i b (.inl g),cC,bF (by omega),dL,aN g]};by_cases l:b<p*k+k;{have:=m (b - p*k) (by omega);rw[show p*k+(b - p*k)=b by omega]at this;rw[this,bF (by rw[au,d,hf];exact l),br (by omega),d]};rw[i b (.inr (by omega)),br (by rw[au,d,hf];omega),au,d,hf,jA,show p*k+k+(b - (p*k+k))=b by omega]
end
def fD(c:aF):Δ υ:=[.bool c.bH,ι κ c.n,θ c.s]
def eB(c:aF):υ:=χ #[.bool c.bH,ι κ c.n,θ c.s]
def bW(l:Δ aF):Δ υ:=l.flatMap fD
theorem sD(b:aF):(fD b).length=3:=rfl
def dW(w:ω)(v:υ)(cs:Δ aF):Prop:=aS w 3 v (Λ cs) (bW cs)
theorem dW.get{w:ω}{v:υ}{b:Δ aF}(l:dW w v b){e:aF}(g:b[p]?=σ e):∃c d i,v=ψ (σ (Ad c d)) (Λ b) i/\Ξ w (Ad c (d+p*3))=σ (.bool e.bH)/\Ξ w (Ad c (d+p*3+1))=σ (ι κ e.n)/\Ξ w (Ad c (d+p*3+2))=σ (θ e.s):=by obtain⟨c,d,i,m,-,-,j⟩:=aS.at l (bY (aB _) (ah.mp g).1);exact⟨c,d,i,m,j (p*3) _ (cV fD 3 sD b g (j:=0) (by decide)),j (p*3+1) _ (cV fD 3 sD b g (j:=1) (by decide)),j (p*3+2) _ (cV fD 3 sD b g (j:=2) (by decide))⟩
def ft(w:ω)(v:υ)(b:Δ (Δ aF)):Prop:=∃vs,aS w 1 v (Λ b) vs/\∀(i:Nat) (cs:Δ aF),b[i]?=σ cs->∃u,vs[i]?=σ u/\dW w u cs
theorem ft.aU{w w':ω}{B:Nat}{v:υ}{b:Δ (Δ aF)}(g:ft w v b)(d:δ B w w')(c:w.heap.size<=B):ft w' v b:=by obtain⟨s,i,j⟩:=g;exact⟨s,i.aU d c,λp e o=>by obtain⟨r,l,m⟩:=j p e o;exact⟨r,l,m.aU d c⟩⟩
theorem ft.get{w:ω}{v:υ}{e:Δ (Δ aF)}(l:ft w v e){i:Δ aF}(j:e[p]?=σ i):∃c d g b,v=ψ (σ (Ad c d)) (Λ e) g/\Ξ w (Ad c (d+p))=σ b/\dW w b i:=by obtain⟨x,m,o⟩:=l;obtain⟨b,r,s⟩:=o p i j;obtain⟨c,d,g,t,-,-,u⟩:=m.at (bY (aB _) (ah.mp j).1);exact⟨c,d,g,b,t,u p b r,s⟩
theorem ft.slice{w:ω}{v:υ}{c:Δ (Δ aF)}(b:ft w v c):∃a d,v=ψ a (Λ c) d:=b.elim λ_ b=>b.1.slice
def oH(n:Nat):υ:=ι κ n
def lR(w:ω)(v:υ)(l:Δ Nat):Prop:=aS w 1 v (Λ l) (l.map oH)
theorem lR.get{w:ω}{v:υ}(g:lR w v m){n:Nat}(e:m[p]?=σ n):∃b c d,v=ψ (σ (Ad b c)) (Λ m) d/\Ξ w (Ad b (c+p))=σ (ι κ n):=by obtain⟨b,c,d,i,-,-,j⟩:=aS.at g (bY (aB _) (ah.mp e).1);exact⟨b,c,d,i,j p _ (by rw[bp,e];rfl)⟩
def fP(c:bU):Δ υ:=[θ c.1,ι κ c.2]
theorem LA(b:bU):(fP b).length=2:=rfl
def eK(w:ω)(v:υ)(cy:Δ bU):Prop:=aS w 2 v (Λ cy) (cy.flatMap fP)
theorem eK.get{w:ω}{v:υ}{b:Δ bU}(l:eK w v b){e:bU}(i:b[p]?=σ e):∃c d g,v=ψ (σ (Ad c d)) (Λ b) g/\Ξ w (Ad c (d+p*2))=σ (θ e.1)/\Ξ w (Ad c (d+p*2+1))=σ (ι κ e.2):=by obtain⟨c,d,g,m,-,-,j⟩:=aS.at l (bY (aB _) (ah.mp i).1);exact⟨c,d,g,m,j (p*2) _ (cV fP 2 LA b i (j:=0) (by decide)),j (p*2+1) _ (cV fP 2 LA b i (j:=1) (by decide))⟩
theorem eK.aU{w w':ω}{B:Nat}{v:υ}{b:Δ bU}(c:eK w v b)(e:δ B w w')(d:w.heap.size<=B):eK w' v b:=aS.aU c e d
theorem eK.slice{w:ω}{v:υ}{b:Δ bU}(d:eK w v b):∃a c,v=ψ a (Λ b) c:=aS.slice d
def mI(cy:Δ bU)(s:Γ):Int:=match wP cy s with
 |some i=>i
 |none=>-1
theorem VO{e:Δ bU}(g:∀(c:Nat) (b:bU),e[c]?=σ b->ct b.1 d=false):wP e d=ν:=by unfold wP;rw[eA];intro b i;obtain⟨c,j⟩:=cB i;exact g c b j
theorem VP{e:Δ bU}{b:bU}(m:e[p]?=σ b)(l:ct b.1 d=true)(i:∀(c:Nat) (b:bU),c<p->e[c]?=σ b->ct b.1 d=false):wP e d=σ p:=by unfold wP;obtain⟨g,j⟩:=ah.mp m;rw[aR];refine⟨g,by rw[j];exact l,λc o=>?_⟩;have:=i c e[c] o (af (by omega));simp[this]
def lH(lo hi:Nat)(a b:ω):Prop:=hi<=b.heap.size/\∀k,lo<=k->k<hi->b.heap[k]?=a.heap[k]?
def Enters(n:Nat):Prop:=∀(args:Array υ) (w:ω),Sem.run prog (callFunc n args) w=.ok (.enter n args) w
theorem lH.aU{lo:Nat}{a:ω}(b:lH lo a.heap.size a i)(d:δ i.heap.size i o):lH lo a.heap.size a o:=⟨ay b.1 d.size,λk e c=>(d.block k (aw c b.1)).trans (b.2 k e c)⟩
theorem lH.of{lo:Nat}{a:ω}(b:δ a.heap.size a i):lH lo a.heap.size a i:=⟨b.size,λk _ c=>b.block k c⟩
theorem lH.back{lo:Nat}{a:ω}(b:δ a.heap.size a i)(c:lH lo i.heap.size i o):lH lo a.heap.size a o:=⟨ay b.size c.1,λk e d=>(c.2 k e (aw d b.size)).trans (b.block k d)⟩
theorem lH.block{lo k:Nat}{a:ω}(c:lH lo a.heap.size a i)(d:lo<=k)(b:a.heap[k]?=σ e):i.heap[k]?=σ e:=(c.2 k d (aA b)).trans b
theorem cO{w w':ω}{size n:Nat}{v:υ}{xs:Δ υ}(c:Φ w p x size v n xs)(b:δ w.heap.size w w'):Φ w' p x size v n xs:=c.kept (row:=ν) ⟨b.os,b.tape,b.output,b.size,λk d _=>b.block k d⟩ (by cases c:Ω v<;>simp)
theorem cR{w:ω}{size:Nat}{v:υ}{n:Nat}{xs:Δ υ}(d:Φ w p x size v n xs):∃a b,v=ψ a n b/\(0<n->∃c,a=σ (Ad c 0)/\p<=c)/\n<=b:=by rcases d.2 with⟨rfl,rfl⟩|⟨c,b,cur,rfl,e,_,g,_⟩;{exact⟨ν,0,rfl,λd=>by omega,by omega⟩};exact⟨_,b,rfl,λ_=>⟨c,rfl,e⟩,g⟩
theorem eG{w w':ω}{size n:Nat}{v:υ}{xs:Δ υ}{row:Option Nat}(c:Φ w p x size v n xs)(d:w.grownBy w' row)(g:∀k,row=σ k->Ω v≠σ k):Φ w' p x size v n xs:=c.kept d (by
 cases e:Ω v with
 |none=>exact .inl rfl
 |some k=>exact .inr (λb=>g k b.symm e))
theorem bB{w:ω}{q:Nat}(d:w.heap[q]?=σ (ξ c x (0,0)))(b:Nat):Ξ w (Ad q b)=c[b]?:=by simp[World.cell?,d]
theorem jd{w:ω}{q:Nat}(b:w.heap[q]?=σ (ξ c x (0,0)))(d:Nat):w.frozen? (Ad q d)=false:=by simp[World.frozen?,b]
theorem gq(c:(g.info? x).map (λb=>(b.zero,b.size,b.bytes))=σ (σ l,p,u)):∃b,g.info? x=σ b/\b.zero=σ l/\b.size=p/\b.bytes=u:=by cases hi:g.info? x with|none=>rw[hi]at c;cases c|some b=>rw[hi]at c;simp at c;exact⟨b,rfl,c.1,c.2.1,c.2.2⟩
theorem nW{w:ω}{r:Array Oper}{rest:Δ Oper}{e:Oper}{a:Act}{p:Exit->Act->ω->Prop}(s:e.guard=ν)(m o:Operand)(i:TypeId)
 (I:e.op=.call { callee:=.builtin .append,args:=#[m,o],argTypes:=#[i,i] }) {base:Nat}   {size bytes:Nat} (L:g.underlying i=σ (.slice x)) (E:(g.info? x).map (λc=>(c.zero,c.size,c.bytes))=σ (σ l,size,bytes)) (j:l.cells.size=size/\0<size/\bytes<=1000)
 {v:υ} {n:Nat} {xs:Δ υ} (K:a.eval m=v) (u:Φ w base x size v n xs) {arr:Array υ} {N:Nat} (M:a.eval o=ψ (σ (Ad N 0)) 1 1) (F:N=w.heap.size) (t:arr.size=size) (z:∀R∈arr.toList,R.oneCell'=true) (H:n+1<=100000) (T:base<=w.heap.size)
 (y:∀b d w',Φ w' base x size (ψ (σ (Ad b 0)) (n+1) d) (n+1) (xs++arr.toList)->(w.alloc (ξ arr x)).grownBy w' (Ω v)->(Ω v=σ b\/w.heap.size+1<=b)->wpList g r p rest (a.put e.dst (ψ (σ (Ad b 0)) (n+1) d)) w'):wpList g r p (e::rest) a (w.alloc (ξ arr x)):=by subst F;obtain⟨c,G,P,Q,O⟩:=gq E;refine mb _ s m o i I base x c l size bytes L G P Q O j.1 j.2.1 v n xs K (u.alloc _) (Ad w.heap.size 0) 1 1 arr.toList M (by rw[dF,t,Nat.one_mul]) (World.news_of_block (az w (ξ arr x))) z (by decide) (by unfold maxLen;omega) (ay (jr H j.2.2) (by decide)) (by simp;omega) ?_;intro b d w' A C D;exact y b d w' A C (by simpa using D)
theorem lL{i:Array Oper}{b:Oper}{a:Act}{w:ω}{d:Act->ω->Prop}{m:Exit->Act->ω->Prop}{l:Prop}(x:b.guard=ν)(f:FuncId)(xs:Array Operand)(o:Array TypeId)
 (j:b.op=.call { callee:=.value (.func f),args:=xs,argTypes:=o }) (u:∀(args:Array υ) (w:ω),Sem.run g (callFunc f args) w=.ok (.enter f args) w) (args:Array υ) (t:#[]++xs.map a.eval++#[]=args)
 (e:Ending->ω->Prop) (r:Calls g f args w e) (p:∀c w',e c w'->∃v,c=τ v/\d (a.put b.dst v) w'):if Region.wanted b (yielded i a.tmps)=true then Oper.wp g b a w d m else l:=by
 have z:Region.wanted b (yielded i a.tmps)=true:=by simp[Region.wanted,x]
 rw[aN z];have c:execOp a.eval b=callFunc f args:=(by cases b;simp only at j;subst j;rw[<- t];rfl);unfold Oper.wp;rw[c,u,Oper.upon_enter];refine r.mono ?_;intro A w' y;obtain⟨v,rfl,s⟩:=p A w' y;exact s
abbrev fE:=aF ⊕ Nat
def km:fE->Δ υ
 |.inl c=>[.bool c.bH,ι κ c.n,θ c.s,.bool false]
 |.inr _=>[.bool false,ι κ 0,θ ⟨#[]⟩,.bool true]
def CU(o:fE):υ:=.agg (km o).toArray
theorem rK(b:fE):(km b).length=4:=by cases b<;>rfl
theorem jD(b:fE):∃d e g c,km b=[.bool d,ι κ e,θ g,.bool c]/\CU b=χ #[.bool d,ι κ e,θ g,.bool c]:=by cases b<;>exact⟨_,_,_,_,rfl,rfl⟩
def Mw:fE:=.inl ⟨false,0,⟨#[]⟩⟩
def cj(b:Δ (Δ aF))(r:Nat):Δ aF:=b.map λcs=>cs.getD r fj
def CV(b:Δ (Δ aF))(ry:Δ Nat):Prop:=∀r∈ry,∀cs∈b,r<Λ cs
def fN(a:ω)(lo:Nat)(fv:υ)(ok:Δ aF->Prop)(F:Δ aF->fE):Prop:=
 ∃n kF,fv=.func (.func n) #[] kF/\Enters n/\∀b,lH lo a.heap.size a b->∀bv cs rv ry,ft b bv cs->lR b rv ry->CV cs ry->Λ ry<=64->(∀r∈ry,ok (cj cs r))->
   Calls prog n (#[bv,rv]++kF) b λr b'=>∃v,r=τ v/\Φ b' b.heap.size 305 4 v (Λ ry) ((ry.map λr=>F (cj cs r)).flatMap km)/\δ b.heap.size b b'
def acL(a:ω)(lo:Nat)(fv:υ)(ok:Δ aF->Prop)(G:Δ aF->aF):Prop:=
 ∃n kF,fv=.func (.func n) #[] kF/\Enters n/\∀b,lH lo a.heap.size a b->∀bv cs (r:Nat),ft b bv cs->CV cs [r]->ok (cj cs r)->
   Calls prog n (#[bv,ι κ r]++kF) b λe b'=>e=τ (eB (G (cj cs r)))/\δ b.heap.size b b'
theorem Ee{c:Δ fE}(m:p<Λ c)(g:fE){a:υ}(i:km g=[a,l,b,y]):((((c.flatMap km).set (p*4) a).set (p*4+1) l).set (p*4+2) b).set (p*4+3) y=(c.set p g).flatMap km:=by
 have e:=uP km 4 rK c;refine afb rK m (λd o=>?_) (λd o=>?_)
 .have j:d=0\/d=1\/d=2\/d=3:=by omega
  generalize c.flatMap km=xs at e;rw[i];rcases j with rfl|rfl|rfl|rfl
  {rw[bK,aH (by omega),bK,aH (by omega),bK,aH (by omega),bK,aN (by omega),aN (by omega)];rfl};{rw[bK,aH (by omega),bK,aH (by omega),bK,aN (by omega),aN (by simp only[List.length_set];omega)];rfl};{rw[bK,aH (by omega),bK,aN (by omega),aN (by simp only[List.length_set];omega)];rfl};rw[bK,aN (by omega),aN (by simp only[List.length_set];omega)];rfl
 generalize c.flatMap km=xs at e;rw[bK,aH (by omega),bK,aH (by omega),bK,aH (by omega),bK,aH (by omega)]
theorem acM{c:Δ fE}(e:c[p]?=σ Mw)(b:aF):(((c.flatMap km).set (p*4) (.bool b.bH)).set (p*4+1) (ι κ b.n)).set (p*4+2) (θ b.s)=(c.set p (.inl b)).flatMap km:=by rw[<- Ee (ah.mp e).1 (.inl b) rfl];have d:=cV km 4 rK c e (j:=3) (by decide);generalize c.flatMap km=xs at d;apply dr;intro i;by_cases g:p*4+3=i;{subst g;rw[bK,aH (by omega),bK,aH (by omega),bK,aH (by omega),bK,aN rfl,d,aN (by simp only[List.length_set];exact(ah.mp d).1)];rfl};rw[bK (i:=p*4+3),aH g]
theorem lX{w:ω}{n:Nat}{c:Δ fE}{j:fE}{a:υ}(d:Φ w p x 4 (ψ (σ ⟨u,0,ν⟩) n z) n (c.flatMap km))(e:c[P]?=σ j)(g:km j=[a,l,b,y]):(Ξ w ⟨u,P*4,ν⟩=σ a/\Ξ w ⟨u,P*4+1,ν⟩=σ l/\Ξ w ⟨u,P*4+2,ν⟩=σ b/\Ξ w ⟨u,P*4+3,ν⟩=σ y)/\∀i,w.frozen? ⟨u,i,ν⟩=false:=by
 have r:=uP km 4 rK c;have o:Λ c=n:=by have:=d.1;omega
 have m:=(ah.mp e).1;refine⟨⟨?_,?_,?_,?_⟩,λi=>d.frozenAt i⟩;{rw[d.cellAt _ (by omega)];have:=cV km 4 rK c e (j:=0) (by decide);rw[g]at this;exact this};{rw[d.cellAt _ (by omega)];have:=cV km 4 rK c e (j:=1) (by decide);rw[g]at this;exact this};{rw[d.cellAt _ (by omega)];have:=cV km 4 rK c e (j:=2) (by decide);rw[g]at this;exact this};rw[d.cellAt _ (by omega)];have:=cV km 4 rK c e (j:=3) (by decide);rw[g]at this;exact this
def Ga(f:Nat->fE)(ry:Δ Nat)(i:Nat):Δ fE:=(ry.take i).map f++List.replicate (Λ ry - i) Mw
theorem QU{f:Nat->fE}{ry:Δ Nat}(b:p<Λ ry):(Ga f ry p)[p]?=σ Mw:=by
 unfold Ga;have c:((ry.take p).map f).length=p:=by simp;omega
 rw[br (by omega),dO,aN (by omega)]
theorem YX{f:Nat->fE}{ry:Δ Nat}(b:ry[p]?=σ u):(Ga f ry p).set p (f u)=Ga f ry (p+1):=by
 have⟨d,e⟩:=ah.mp b;unfold Ga;have c:((ry.take p).map f).length=p:=by simp;omega
 rw[show Λ ry - p=(Λ ry - (p+1))+1 by omega,jb,eO _ _ (by omega),c,dQ,iB,bS,b];simp
theorem Tryz.acN:(prog.info? 305).map (λb=>(b.zero,b.size,b.bytes))=σ (σ (CU Mw),4,40):=by kernel_rfl
theorem akP{a:ω}{lo q:Nat}{O:Δ aF->Prop}{g:Δ aF->aF}(hc:acL a lo l O g)(hk:lH lo a.heap.size a i)(t:i.heap[q]?=σ (ξ #[l] x (0,0))){e:Δ (Δ aF)}{ry:Δ Nat}(hb:ft i b e)(I:lR i y ry)(rj:CV e ry)(hl:Λ ry<=64)(N:∀c∈ry,O (cj e c)) :
 Calls prog 183 #[b,y,π (σ ⟨q,0,ν⟩)] i λc E=>∃v,c=τ v/\Φ E i.heap.size 305 4 v (Λ ry) ((ry.map λc=>.inl (g (cj e c))).flatMap km)/\δ i.heap.size i E:=by
 obtain⟨n,kF,rfl,hE,Z⟩:=hc;have⟨i0,P,L,M,K⟩:=gq Tryz.acN;have⟨ra,Ef,V⟩:=aS.slice I;subst V;have U:=ak t;have T:=ak N;have R:=aA t;unfold Enters at hE;clear t N;go_in;go_wp2_with(at_make;refine eV _ rfl _ _ 303 rfl i.heap.size 305 i0 _ 4 underlying303 P L M _ _ _ _ (Λ ry) rfl rfl rfl rfl (by rw[K];omega) (by unfold maxLen;omega) (by simp) ?_;intro w1 G H);rw[A5 rK Mw (CU Mw) rfl (by decide)]at G;have F:δ i.heap.size i w1:=(aj _ _).grown H (ae _) (by simp);have iP:=ak F;clear H F P L M K;go_wp2;go_loopw[14] (λr wr=>∃d:Nat,d<=Λ ry/\r=ι κ d/\Hid (Φ wr i.heap.size 305 4 (ψ (σ ⟨i.heap.size,0,ν⟩) (Λ ry) (Λ ry)) (Λ ry) ((Ga (λc=>.inl (g (cj e c))) ry d).flatMap km))/\Hid (δ i.heap.size i wr)) (λr _=>Λ ry - (intOf r).toNat);case atStart=>exact⟨0,aB _,rfl,ak (by simpa[Ga]using G),iP⟩
 case round=>obtain⟨d,hi,rfl,D,j⟩:=hrel;by_cases m:d<Λ ry;{have gY:=aX.2 m;obtain⟨c,p⟩:∃c,ry[d]?=σ c:=⟨ry[d],af m⟩;have⟨ac,ad,aa,he,c0⟩:=lR.get (aS.aU I j.J (ae _)) p;cases he;have z:=aq p;have C:=(Z wr (hk.aU j.J) b e c (hb.aU j.J (ae _)) (λag hx=>by cases bj.mp hx;exact rj c z) (T.J c z));have K7:=bB ((j.J.block q R).trans U.J) 0;have Q:=ak p;clear p z;go_wp21;refine C.mono ?_;rintro ab w2 ⟨rfl,s⟩;have A:=cO D.J s;have⟨⟨d0,d1,d2,d3⟩,fz⟩:=lX A (QU m) rfl;have u:=(((A.stored (d*4) (.bool (g (cj e c)).bH)).1.stored (d*4+1) (ι κ (g (cj e c)).n)).1.stored (d*4+2) (θ (g (cj e c)).s)).1;rw[acM (QU m),YX (f:=λc=>.inl (g (cj e c))) Q.J]at u;have lj:=ak u;have Y:=(j.J.trans (s.mono j.J.size));clear A u s C;unfold eB;go_wp2;go_roundw;(case rel=>exact⟨d+1,by omega,by go_num,lj,ak (((Y.setCell (ae _) _).setCell (ae _) _).setCell (ae _) _)⟩);case measure=>simp[intOf];omega};obtain rfl:d=Λ ry:=(by omega);have o:=D.J;unfold Ga at o;rw[dQ,eR,cM,eF]at o;have X:=ak o;clear o;go_wp2;go_ret;exact⟨_,rfl,X.J,j.J⟩
def xw(a:ω)(lo:Nat)(fv:υ)(ok:aF->Prop)(W:aF->fE):Prop:=
 ∃n kF,fv=.func (.func n) #[] kF/\Enters n/\∀b,lH lo a.heap.size a b->∀c,ok c->Calls prog n (#[eB c]++kF) b λe b'=>e=τ (CU (W c))/\δ b.heap.size b b'
def yK(a:ω)(lo:Nat)(fv:υ)(ok:aF->aF->Prop)(W:aF->aF->fE):Prop:=
 ∃n kF,fv=.func (.func n) #[] kF/\Enters n/\∀b,lH lo a.heap.size a b->∀c d,ok c d->Calls prog n (#[eB c,eB d]++kF) b λe b'=>e=τ (CU (W c d))/\δ b.heap.size b b'
def zq(W:aF->fE):fE->fE
 |.inl c=>W c
 |.inr e=>.inr e
def mid(f g:Nat->fE)(ry:Δ Nat)(i:Nat):Δ fE:=(ry.take i).map f++(ry.drop i).map g
theorem WK{f b:Nat->fE}{ry:Δ Nat}:(mid f b ry p).length=Λ ry:=by simp[mid];omega
theorem Aw{f g:Nat->fE}{ry:Δ Nat}(c:ry[p]?=σ u):(mid f g ry p)[p]?=σ (g u):=by have⟨b,d⟩:=ah.mp c;unfold mid;rw[br (by simp;omega)];simp[show p - min p (Λ ry)=0 by omega,b,d]
theorem NU{f g:Nat->fE}{ry:Δ Nat}(b:ry[p]?=σ u):(mid f g ry p).set p (f u)=mid f g ry (p+1):=by
 have⟨c,e⟩:=ah.mp b;unfold mid;have d:((ry.take p).map f).length=p:=by simp;omega
 rw[cL c,jN,eO _ _ (by omega),d,dQ,iB,bS,b];simp
theorem QV{f g:Nat->fE}{ry:Δ Nat}(b:ry[p]?=σ u)(d:f u=g u):mid f g ry p=mid f g ry (p+1):=by rw[<- NU b,d];have:=Aw (f:=f) (g:=g) b;apply dr;intro e;rw[bK];by_cases c:p=e;{subst c;rw[aN rfl,this,aN (ah.mp this).1]};rw[aH c]
theorem akS{a:ω}{lo q:Nat}{I:Δ aF->Prop}{ac:aF->Prop}{m:Δ aF->fE}{W:aF->fE}(hc:fN a lo l I m)(hw:xw a lo b ac W)(zH:∀row,I row->∀d,m row=.inl d->ac d)(hk:lH lo a.heap.size a i)(hq:i.heap[q]?=σ (ξ #[l] x (0,0)))(C:i.heap[p]?=σ (ξ #[b] j (0,0))){e:Δ (Δ aF)}{ry:Δ Nat}(hb:ft i y e)(hr:lR i M ry)(rj:CV e ry)(hl:Λ ry<=64)(H:∀c∈ry,I (cj e c)) :
 Calls prog 292 #[y,M,π (σ ⟨q,0,ν⟩),π (σ ⟨p,0,ν⟩)] i λc P=>∃v,c=τ v/\Φ P i.heap.size 305 4 v (Λ ry) ((ry.map λc=>zq W (m (cj e c))).flatMap km)/\δ i.heap.size i P:=by
 obtain⟨n,kF,rfl,hE,hC⟩:=hc;obtain⟨n2,kP,rfl,ai,ag⟩:=hw;have N:=(hC i hk y e M ry hb hr rj hl H);have QW:=ak (λc (h:c∈ry)=>zH _ (H c h));have PB:=ak C;have Q:=bB hq 0;simp at Q;have F9:=aA C;unfold Enters at hE ai;clear hC hb hr hq C rj H zH;go_in;go_wp21;refine N.mono ?_;rintro Z w1 ⟨v,rfl,Y,R⟩;obtain⟨va,eH,rfl,O,Ib⟩:=cR Y;have iP:=ak R;have ad:=ak O;clear R O N Q;go_wp2;go_loopw[16] (λd wr=>∃g:Nat,g<=Λ ry/\d=ι κ g/\Hid (Φ wr i.heap.size 305 4 (ψ va (Λ ry) eH) (Λ ry) ((mid (λc=>zq W (m (cj e c))) (λc=>m (cj e c)) ry g).flatMap km))/\Hid (δ i.heap.size i wr)) (λd _=>Λ ry - (intOf d).toNat);case atStart=>exact⟨0,aB _,rfl,ak (by simpa[mid]using Y),iP⟩
 case round=>obtain⟨g,hi,rfl,s,t⟩:=hrel;by_cases E:g<Λ ry;{have gY:=aX.2 E;obtain⟨ap,rfl,z⟩:=ad.J (by omega);obtain⟨c,r⟩:∃c,ry[g]?=σ c:=⟨ry[g],af E⟩;have rA:=aq r;have L:=ak r;cases o:m (cj e c)with|inr Z=>(obtain⟨⟨T,U,V,X⟩,fz⟩:=lX s.J (Aw r) (by simp only[o];rfl);have D:=ak (QV (f:=λc=>zq W (m (cj e c))) (g:=λc=>m (cj e c)) r (by simp only[o];rfl));clear r o;go_wp2;go_roundw;(case rel=>exact⟨g+1,by omega,by go_num,ak (by rw[<- D.J];exact s.J.alloc _),ak (t.J.alloc t.J.size _)⟩);case measure=>simp[intOf];omega)|inl d=>obtain⟨⟨T,U,V,X⟩,fz⟩:=lX s.J (Aw r) (by simp only[o];rfl);have D:=ak (NU (f:=λc=>zq W (m (cj e c))) (g:=λc=>m (cj e c)) r);have u:=(t.J.alloc t.J.size (ξ #[.bool d.bH,ι κ d.n,θ d.s,.bool false] 305));have K:=ak (ag _ (hk.aU u) d (QW.J c rA d o));have HE:Hid (zq W (m (cj e c))=W d):=ak (by rw[o];rfl);have K7:=bB ((u.block p F9).trans PB.J) 0;simp only[List.getElem?_toArray,List.getElem?_cons_zero]at K7;clear r o;unfold eB at K;go_wp21;refine K.J.mono ?_;rintro Z w2 ⟨rfl,F⟩;have A:=cO (s.J.alloc _) F;have⟨al,am,an,er,aa,ab⟩:=jD (W d);rw[ab];obtain⟨-,ao⟩:=lX A (Aw L.J) (jD (m (cj e c))).choose_spec.choose_spec.choose_spec.choose_spec.1;obtain⟨⟨e0,e1,e2,e3⟩,-⟩:=lX A (Aw L.J) (jD (m (cj e c))).choose_spec.choose_spec.choose_spec.choose_spec.1;have G:=((((A.stored (g*4) (.bool al)).1.stored (g*4+1) (ι κ am)).1.stored (g*4+2) (θ an)).1.stored (g*4+3) (.bool er)).1;rw[Ee (by rw[WK];exact E) (W d) aa,<- HE.J,D.J]at G;have lj:=ak G;have fM:=(u.trans (F.mono u.size));clear A G F K aa ab T U V X fz;go_wp2;go_roundw;(case rel=>exact⟨g+1,by omega,by go_num,lj,ak ((((fM.setCell z _).setCell z _).setCell z _).setCell z _)⟩);case measure=>simp[intOf];omega};obtain rfl:g=Λ ry:=(by omega);have o:=s.J;unfold mid at o;rw[eF,lZ,rY,cM]at o;have UC:=ak o;clear o;go_wp2;go_ret;exact⟨_,rfl,UC.J,t.J⟩
theorem avv(a:Int)(w:ω):Calls prog 323 #[ι κ a] w λb w'=>b=τ (.bool false)/\w'=w:=by go_in;go_wp2;go_ret;exact⟨rfl,rfl⟩
theorem avw(b:Γ)(w:ω):Calls prog 332 #[θ b] w λc w'=>c=τ (.bool false)/\w'=w:=by
 have d:(b.toList != b.toList)=false:=by simp
 go_in;go_wp2;go_ret;exact⟨rfl,rfl⟩
def Q0(a b:Int):Int:=if a<b then -1 else if b<a then 1 else 0
theorem My:∀c d:Δ UInt8,qb c d=if Op.bytesLess c d then -1 else if c==d then 0 else 1
 |[],[]=>rfl
 |[],_::_=>rfl
 |_::_,[]=>rfl
 |a::c,b::d=>by
   have i:=My c d;unfold qb Op.bytesLess;by_cases e:a=b
   . subst e
     rw[aN rfl,i];simp
   . rw[aH e]
     by_cases g:a<b
     . simp[g]
     . simp[g,e]
theorem acQ(a b:Int)(w:ω):Calls prog 325 #[ι κ a,ι κ b] w λi w'=>i=τ (ι κ (Q0 a b))/\w'=w:=by
 have g:=ak (show(a<b->Q0 a b=-1)/\(¬a<b->b<a->Q0 a b=1)/\(¬a<b->¬b<a->Q0 a b=0)from⟨λc=>aN c,λc d=>(aH c).trans (aN d),λc d=>(aH c).trans (aH d)⟩);rcases pG (a<b)with c|c<;>rcases pG (b<a)with d|d
 all_goals (first|have e:=ak (g.J.1 c)|have e:=ak (g.J.2.1 c d)|have e:=ak (g.J.2.2 c d));go_in;go_wp2_with(first|(go_at_call 323;refine(avv _ _).mono ?_;rintro i w' ⟨rfl,rfl⟩));go_ret;exact⟨by rw[e.J];rfl,rfl⟩
theorem acR(a b:Γ)(w:ω):Calls prog 326 #[θ a,θ b] w λc w'=>c=τ (ι κ (qb a.toList b.toList))/\w'=w:=by rw[My];cases h:Op.bytesLess a.toList b.toList<;>cases g:a.toList==b.toList;all_goals go_in;go_wp2_with(first|(go_at_call 332;refine(avw _ _).mono ?_;rintro c w' ⟨rfl,rfl⟩));go_ret;exact⟨rfl,rfl⟩
def orI(a b:Int):Int:=if a=0 then b else a
theorem akV(a b:Int)(l r:Nat)(w:ω)(y:Ξ w ⟨l,0,ν⟩=σ (ι κ a))(z:Ξ w ⟨l,1,ν⟩=σ (ι κ b)):Calls prog 324 #[ψ (σ ⟨l,0,ν⟩) 2 r] w λx w'=>x=τ (ι κ (orI a b))/\δ w.heap.size w w':=by
 go_in;go_wp2;go_loopw[5,8] (λ_ j wr=>∃c:Nat,c<=2/\j=ι κ c/\wr=w/\Hid ((1<=c->a=0)/\(2<=c->b=0))) (λ_ j _=>2 - (intOf j).toNat);case atStart=>exact⟨0,by omega,rfl,rfl,ak ⟨λo=>by omega,λo=>by omega⟩⟩
 case round=>obtain⟨c,A,rfl,rfl,i⟩:=hrel;have u:c=0\/c=1\/c=2:=(by omega);rcases u with rfl|rfl|rfl;{by_cases e:a=0;{have d:=ak e;have s:(a != 0)=false:=(by rw[e];rfl);clear e;go_wp2;exact⟨⟨1,by omega,by go_num,by first|rfl|trivial,ak ⟨λ_=>d.J,λo=>by omega⟩⟩,by simp[intOf]⟩};have d:=ak (show orI a b=a from aH e);have s:(a != 0)=true:=(by rw[dZ];exact e);clear e;go_wp2;go_ret;exact⟨by rw[d.J];rfl,aj _ _⟩};{have m:=ak (i.J.1 (ae _));by_cases g:b=0;{have p:=ak g;have t:(b != 0)=false:=(by rw[g];rfl);clear g;go_wp2;exact⟨⟨2,by omega,by go_num,by first|rfl|trivial,ak ⟨λ_=>m.J,λ_=>p.J⟩⟩,by simp[intOf]⟩};have d:=ak (show orI a b=b from aN m.J);have t:(b != 0)=true:=(by rw[dZ];exact g);clear g;go_wp2;go_ret;exact⟨by rw[d.J];rfl,aj _ _⟩};have d:=ak (show orI a b=0 from(aN (i.J.1 (by omega))).trans (i.J.2 (by omega)));go_wp2;go_ret;exact⟨by rw[d.J];rfl,aj _ _⟩
def Q5(l r:aF):Int:=orI (Q0 l.n r.n) (qb l.s.toList r.s.toList)
theorem fW{a:υ}{t:TypeId}(b:i.heap[p]?=σ (ξ #[a,l] t (0,0))):Ξ i ⟨p,0,ν⟩=σ a/\Ξ i ⟨p,1,ν⟩=σ l:=by simp[World.cell?,b]
theorem oh{a:υ}(c:i.heap[p]?=σ (ξ #[a,l,b] x (0,0))):Ξ i ⟨p,0,ν⟩=σ a/\Ξ i ⟨p,1,ν⟩=σ l/\Ξ i ⟨p,2,ν⟩=σ b:=by simp[World.cell?,c]
def xD(W:aF->aF->fE):fE->fE->fE
 |.inr e,_=>.inr e
 |.inl _,.inr e=>.inr e
 |.inl l,.inl r=>if l.bH||r.bH then .inl fj else W l r
theorem ak5{a:ω}{lo q:Nat}{ok:Δ aF->Prop}{am:aF->aF->Prop}{g o:Δ aF->fE}{W:aF->aF->fE}(hc:fN a lo l ok g)(a6:fN a lo b ok o)(hw:yK a lo y am W)(zH:∀row,ok row->∀t R,g row=.inl t->o row=.inl R->t.bH=false->R.bH=false->am t R)(hk:lH lo a.heap.size a i)(hq:i.heap[q]?=σ (ξ #[l] x (0,0)))(FP:i.heap[p]?=σ (ξ #[b] j (0,0)))(Le:i.heap[u]?=σ (ξ #[y] X (0,0))){rv:υ}{d:Δ (Δ aF)}{ry:Δ Nat}(hb:ft i M d)(hr:lR i rv ry)(rj:CV d ry)(hl:Λ ry<=64)(oI:∀c∈ry,ok (cj d c)) :
 Calls prog 312 #[M,rv,π (σ ⟨q,0,ν⟩),π (σ ⟨p,0,ν⟩),π (σ ⟨u,0,ν⟩)] i λc b'=>∃v,c=τ v/\Φ b' i.heap.size 305 4 v (Λ ry) ((ry.map λc=>xD W (g (cj d c)) (o (cj d c))).flatMap km)/\δ i.heap.size i b':=by
 obtain⟨n,kF,rfl,hE,hC⟩:=hc;obtain⟨n1,Ay,rfl,a4,ag⟩:=a6;obtain⟨n2,kP,rfl,a5,a3⟩:=hw;have HC:=(hC i hk M d rv ry hb hr rj hl oI);have OO:=(λw (C:δ i.heap.size i w)=>ag w (hk.aU C) M d rv ry (hb.aU C (ae _)) (aS.aU hr C (ae _)) rj hl oI);have QW:=ak (λc (r:c∈ry)=>zH _ (oI c r));have PB:=ak FP;have ap:=ak Le;have c0:=bB hq 0;simp at c0;have Y6:=aA FP;have ax:=aA Le;unfold Enters at hE a4 a5;clear hC ag hb hr hq FP Le rj oI zH;go_in;go_wp21;refine HC.mono ?_;rintro T w1 ⟨v,rfl,dy,C⟩;obtain⟨va,U,rfl,QJ,Ib⟩:=cR dy;have c1:=bB ((C.block p Y6).trans PB.J) 0;simp at c1;have ac:=ak (OO w1 C);have ar:=ak QJ;clear QJ HC c0;go_wp21;refine(ac.J).mono ?_;rintro T w2 ⟨v2,rfl,D8,cW⟩;obtain⟨an,Ei,rfl,Y7,a7⟩:=cR D8;have a1:Hid (∀m z,va=σ ⟨m,0,ν⟩->an=σ ⟨z,0,ν⟩->0<Λ ry->m≠z):=ak (λm z L Y h0=>by
  have tF:m<w1.heap.size:=by
   have O:=dy;rcases O.2 with⟨r,-⟩|⟨g',zB,cur,r,-,av,-⟩
   . rw[L]at r;cases r
   . rw[L]at r;cases r;exact aA av
  have⟨g',h3,h4⟩:=Y7 h0;rw[Y]at h3
  cases h3
  omega)
 have aT:=ak (cO dy cW);have a0:=ak D8;have fM:=ak (C.trans (cW.mono C.size));have aC:=ak Y7;clear D8 cW Y7 ac c1 OO;go_wp2;go_loopw[21] (λt wr=>∃e:Nat,e<=Λ ry/\t=ι κ e/\Hid (Φ wr i.heap.size 305 4 (ψ va (Λ ry) U) (Λ ry) ((mid (λc=>xD W (g (cj d c)) (o (cj d c))) (λc=>g (cj d c)) ry e).flatMap km))/\Hid (Φ wr w1.heap.size 305 4 (ψ an (Λ ry) Ei) (Λ ry) ((ry.map λc=>o (cj d c)).flatMap km))/\Hid (δ i.heap.size i wr)) (λt _=>Λ ry - (intOf t).toNat);case atStart=>exact⟨0,aB _,rfl,ak (by simpa[mid]using aT.J),a0,fM⟩
 case round=>
  obtain⟨e,hi,rfl,HO,LG,oZ⟩:=hrel;by_cases cK:e<Λ ry
  .have gY:=aX.2 cK;obtain⟨m,rfl,hg⟩:=ar.J (by omega);obtain⟨z,rfl,sF⟩:=aC.J (by omega);have jK:m≠z:=a1.J m z rfl rfl (by omega);obtain⟨c,qt⟩:∃c,ry[e]?=σ c:=⟨ry[e],af cK⟩;have HM:=(aq qt);have BV:=ak qt;have ad:(ry.map λc=>o (cj d c))[e]?=σ (o (cj d c)):=(by rw[bp,qt];rfl)
   obtain⟨x1,y1,z1,e1,F,-⟩:=jD (g (cj d c));obtain⟨x2,y2,z2,e2,A,-⟩:=jD (o (cj d c));have⟨⟨d0,d1,d2,d3⟩,fz⟩:=lX LG.J ad A;obtain⟨Z,Kp⟩:∃E,E=Obj.cells #[.bool x2,ι κ y2,θ z2,.bool e2] 305:=⟨_,rfl⟩;obtain⟨o2,sE⟩:∃E,E=Obj.cells #[.bool x1,ι κ y1,θ z1,.bool e1] 305:=⟨_,rfl⟩;have YZ:=(oZ.J.alloc oZ.J.size Z);have K:=ak (YZ.alloc YZ.size o2);have⟨⟨u0,u1,u2,u3⟩,a8⟩:=lX (HO.J.alloc Z) (Aw BV.J) F;have⟨⟨v0,v1,v2,v3⟩,a9⟩:=lX ((HO.J.alloc Z).alloc o2) (Aw BV.J) F;have P:=((HO.J.alloc Z).alloc o2);have aa:=ak ((LG.J.alloc Z).alloc o2);have HS:=ak (NU (f:=λc=>xD W (g (cj d c)) (o (cj d c))) (g:=λc=>g (cj d c)) qt);have a2:=bB ((K.J.block u ax).trans ap.J) 0;simp only[List.getElem?_toArray,List.getElem?_cons_zero]at a2;have Jk:Hid (∀(s:ω) (E:fE) G H I D,Φ s i.heap.size 305 4 (ψ (σ ⟨m,0,ν⟩) (Λ ry) U) (Λ ry) ((mid (λc=>xD W (g (cj d c)) (o (cj d c))) (λc=>g (cj d c)) ry e).flatMap km)->Φ s w1.heap.size 305 4 (ψ (σ ⟨z,0,ν⟩) (Λ ry) Ei) (Λ ry) ((ry.map λc=>o (cj d c)).flatMap km)->δ i.heap.size i s->km E=[.bool G,ι κ H,θ I,.bool D]->xD W (g (cj d c)) (o (cj d c))=E->
    (∃ab:Nat,ab<=Λ ry/\Value.int κ ((e:Int)+1)=ι κ ab/\Hid (((((s.setCell ⟨m,e*4,ν⟩ (.bool G)).setCell ⟨m,e*4+1,ν⟩ (ι κ H)).setCell ⟨m,e*4+2,ν⟩ (θ I)).setCell ⟨m,e*4+3,ν⟩ (.bool D)).ownsRow i.heap.size 305 4 (ψ (σ ⟨m,0,ν⟩) (Λ ry) U) (Λ ry) ((mid (λc=>xD W (g (cj d c)) (o (cj d c))) (λc=>g (cj d c)) ry ab).flatMap km))/\Hid (((((s.setCell ⟨m,e*4,ν⟩ (.bool G)).setCell ⟨m,e*4+1,ν⟩ (ι κ H)).setCell ⟨m,e*4+2,ν⟩ (θ I)).setCell ⟨m,e*4+3,ν⟩ (.bool D)).ownsRow w1.heap.size 305 4 (ψ (σ ⟨z,0,ν⟩) (Λ ry) Ei) (Λ ry) ((ry.map λc=>o (cj d c)).flatMap km))/\Hid (δ i.heap.size i ((((s.setCell ⟨m,e*4,ν⟩ (.bool G)).setCell ⟨m,e*4+1,ν⟩ (ι κ H)).setCell ⟨m,e*4+2,ν⟩ (θ I)).setCell ⟨m,e*4+3,ν⟩ (.bool D))))):=ak (λs E G H I D L Y h3 h4 h5=>by
    have lx:=((((L.stored (e*4) (.bool G)).1.stored (e*4+1) (ι κ H)).1.stored (e*4+2) (θ I)).1.stored (e*4+3) (.bool D)).1;rw[Ee (by rw[WK];exact cK) E h4,<- h5,HS.J]at lx;refine⟨e+1,by omega,by push_cast;rfl,ak lx,ak ?_,ak ((((h3.setCell hg _).setCell hg _).setCell hg _).setCell hg _)⟩;have hx:(Value.slice (σ ⟨z,0,ν⟩) (Λ ry) Ei).ownBlock≠σ m:=by simp[Value.ownBlock];exactλr=>jK r.symm
    exact bO (bO (bO (bO Y hx _) hx _) hx _) hx _)
   have MB:Hid (∀(s:ω),Φ s i.heap.size 305 4 (ψ (σ ⟨m,0,ν⟩) (Λ ry) U) (Λ ry) ((mid (λc=>xD W (g (cj d c)) (o (cj d c))) (λc=>g (cj d c)) ry e).flatMap km)->xD W (g (cj d c)) (o (cj d c))=g (cj d c)->Φ s i.heap.size 305 4 (ψ (σ ⟨m,0,ν⟩) (Λ ry) U) (Λ ry) ((mid (λc=>xD W (g (cj d c)) (o (cj d c))) (λc=>g (cj d c)) ry (e+1)).flatMap km)):=ak (λs L Y=>by
    rw[<- QV (f:=λc=>xD W (g (cj d c)) (o (cj d c))) (g:=λc=>g (cj d c)) BV.J Y];exact L)
   clear qt ad;cases hf:g (cj d c)with
   |inr T=>rw[hf]at F;simp[km]at F;obtain⟨rfl,rfl,rfl,rfl⟩:=F;have HT:=ak (show xD W (g (cj d c)) (o (cj d c))=g (cj d c)by rw[hf];rfl);clear hf A;subst Kp;subst sE;go_wp2;go_roundw;(case rel=>exact⟨e+1,by omega,by go_num,ak (MB.J _ P HT.J),aa,K⟩);case measure=>simp[intOf];omega
   |inl t=>
    rw[hf]at F;simp[km]at F;obtain⟨rfl,rfl,rfl,rfl⟩:=F;cases nA:o (cj d c)with
    |inr T=>have Q:=ak (Jk.J _ (.inr T) false 0 ⟨#[]⟩ true P aa.J K.J rfl (by rw[hf,nA];rfl));rw[nA]at A;simp[km]at A;obtain⟨rfl,rfl,rfl,rfl⟩:=A;clear hf nA;subst Kp;subst sE;go_wp2;go_roundw;(case rel=>exact Q.J);case measure=>simp[intOf];omega
    |inl R=>
     have⟨cn,cN,cS⟩:=t;have⟨dn,dN,dS⟩:=R;rw[nA]at A;simp[km]at A;obtain⟨rfl,rfl,rfl,rfl⟩:=A;dsimp only at *;by_cases N:cn=true\/dn=true
     .have Q:=ak (Jk.J _ (.inl fj) true 0 ⟨#[]⟩ false P aa.J K.J rfl (by rw[hf,nA];simp[xD];rcases N with r|r<;>simp[r]));clear hf nA;subst Kp;subst sE;cases cn<;>cases dn<;>first
       | (simp at N;done)
       | (clear N
          go_wp2;go_roundw
          case rel=>exact Q.J
          case measure=>simp[intOf];omega)
     obtain rfl:cn=false:=(by simpa usingλr=>N (.inl r));obtain rfl:dn=false:=(by simpa usingλr=>N (.inr r));have yn:=ak (a3 _ (hk.aU K.J) ⟨false,cN,cS⟩ ⟨false,dN,dS⟩ (QW.J c HM _ _ hf nA rfl rfl));have HT:=ak (show xD W (g (cj d c)) (o (cj d c))=W ⟨false,cN,cS⟩ ⟨false,dN,dS⟩by rw[hf,nA];simp[xD]);have⟨G,H,I,D,ai,al⟩:=jD (W ⟨false,cN,cS⟩ ⟨false,dN,dS⟩);have HV:=ak al;have ao:=ak ai;clear hf nA N ai al;subst Kp;subst sE;unfold eB at yn;go_wp21;refine yn.J.mono ?_;rintro T s ⟨rfl,V⟩;rw[HV.J];have Q:=ak (Jk.J s (W ⟨false,cN,cS⟩ ⟨false,dN,dS⟩) G H I D (cO P V) (cO aa.J V) (K.J.trans (V.mono K.J.size)) ao.J HT.J);have⟨⟨t0,t1,j,X⟩,ba⟩:=lX (cO P V) (Aw BV.J) (jD (g (cj d c))).choose_spec.choose_spec.choose_spec.choose_spec.1;clear V;go_wp2;go_roundw;(case rel=>exact Q.J);case measure=>simp[intOf];omega
  obtain rfl:e=Λ ry:=(by omega);have O:=HO.J;unfold mid at O;rw[eF,lZ,rY,cM]at O;have UC:=ak O;clear O;go_wp2;go_ret;exact⟨_,rfl,UC.J,oZ.J⟩
theorem Av{w:ω}{lo:Nat}{fv:υ}{ok:Δ aF->Prop}{G:Δ aF->aF}(c:acL w lo fv ok G)(t:lo<=w.heap.size) :
 Calls prog 158 #[fv] w λu w'=>∃g,u=τ g/\fN w' lo g ok (λrow=>.inl (G row))/\δ w.heap.size w w':=by have j:=c;obtain⟨n,e,rfl,-⟩:=c;have b:δ w.heap.size w (w.alloc (ξ #[.func (.func n) #[] e] 300)):=(aj _ _).alloc (ae _) _;have l:Hid (fN (w.alloc (ξ #[.func (.func n) #[] e] 300)) lo (.func (.func 183) #[] #[π (σ ⟨w.heap.size,0,ν⟩)]) ok (λrow=>.inl (G row))):=ak ⟨_,_,rfl,call183,λx d y z A ry m o p r s=>akP j (lH.back b d) (d.block t (az w _)) m o p r s⟩;have i:=b;clear b;go_in;go_wp2;go_ret;exact⟨_,rfl,l.J,i⟩
theorem aoW(b:υ)(d:Int)(w:ω):Calls prog 159 #[b,ι κ d] w λc w'=>c=τ (eB (ox 1))/\δ w.heap.size w w':=by go_in;go_wp2;refine aE (v:=eB (ox 1)) (by simp[results,results159,go_sem,eB,ox];try rfl) rfl ?_;exact⟨rfl,by repeat(first|exact aj _ _|refine fx ?_ (by simp) _|refine gw ?_ (by simp) _)⟩
theorem akQ(e:υ)(m:Int)(k:Int)(b:aF){q:Nat}{w:ω}(d:w.heap[q]?=σ (ξ #[ι κ k,.bool b.bH,ι κ b.n,θ b.s] x (0,0))):Calls prog 281 #[e,ι κ m,π (σ ⟨q,0,ν⟩)] w λl w'=>l=τ (eB b)/\δ w.heap.size w w':=by have c:=(dA w (zc false 0 ⟨#[]⟩) q (aA d)).trans d;have g:=bB c 1;have i:=bB c 2;have j:=bB c 3;simp only[List.getElem?_toArray,List.getElem?_cons_zero,List.getElem?_cons_succ]at g i j;clear d c;go_in;go_wp2;refine aE (v:=eB b) (by simp[results,results281,go_sem,eB];try rfl) rfl ?_;exact⟨rfl,by repeat(first|exact aj _ _|refine fx ?_ (by simp) _|refine gw ?_ (by simp) _)⟩
theorem akR{b:Δ (Δ aF)}{q:Nat}{w:ω}(j:w.heap[q]?=σ (ξ #[ι κ u] x (0,0)))(m:ft w l b)(o:u<Λ b)(r:CV b [p]):Calls prog 282 #[l,ι κ p,π (σ ⟨q,0,ν⟩)] w λA w'=>A=τ (eB ((cj b p).getD u fj))/\δ w.heap.size w w':=by
 have g:δ w.heap.size w (w.alloc (zc false 0 ⟨#[]⟩)):=(aj _ _).alloc (ae _) _;have z:=bB ((g.block q (aA j)).trans j) 0;simp only[List.getElem?_toArray,List.getElem?_cons_zero]at z;obtain⟨d,e⟩:∃c,b[u]?=σ c:=⟨b[u],af o⟩;have t:p<Λ d:=r p (by simp) d (aq e);obtain⟨c,i⟩:∃c,d[p]?=σ c:=⟨d[p],af t⟩;obtain⟨I,M,D,O,rfl,E,s⟩:=(m.aU g (ae _)).get e;obtain⟨K,N,P,rfl,F,G,H⟩:=s.get i;have y:=ak (show(cj b p).getD u fj=c by simp[cj,List.getD,e,i]);have C:=aX.2 o;have L:(p:Int)<Λ d:=by omega
 clear j e i m r s g;rw[y.J];go_in;go_wp2;refine aE (v:=eB c) (by simp[results,results282,go_sem,eB];try rfl) rfl ?_;exact⟨rfl,by repeat(first|exact aj _ _|refine fx ?_ (by simp) _|refine gw ?_ (by simp) _)⟩
theorem mq(k:Nat)(c:Array υ)(a:Addr)(b:Go.Mode)(w:ω):(store a (.func (.func k) #[] c) b).run prog w=stored prog w a (.func (.func k) #[] c) b:=run_store prog w a _ b rfl
def xy(c:aF):Prop:=c=fj\/c=ox 0\/c=ox 1
def Y0(s:Bool):fE->Bool
 |.inl c=>!c.bH&&decide (c.n=if s then 1 else 0)
 |.inr _=>false
def kS(s:Bool)(l r:fE):fE:=
 match l with
 |.inr e=>.inr e
 |.inl u=>if Y0 s l then l else match r with
   |.inr e=>.inr e
   |.inl v=>if Y0 s r then r else if u.bH then .inl u else .inl v
def uj(s:Bool):fE->Bool
 |.inr _=>false
 |.inl c=>!Y0 s (.inl c)
def opens(s:Bool)(F:Nat->fE)(ry:Δ Nat)(i:Nat):Δ (Nat×Nat):=((ry.take i).zipIdx).filter λp=>uj s (F p.1)
theorem yL{b:Nat->fE}{ry:Δ Nat}(c:ry[p]?=σ u):opens r b ry (p+1)=opens r b ry p++(if uj r (b u)then[(u,p)]else[]):=by unfold opens;have d:=(ah.mp c).1;rw[bS,c,List.zipIdx_append,ou];congr 1;simp[List.filter_cons,List.zipIdx,Nat.min_eq_left (Nat.le_of_lt d)]
theorem Mx(d:Bool)(c:Nat->fE)(ry:Δ Nat)(b:Nat):(opens d c ry b).length<=b:=by unfold opens;refine ay (gX _ _) ?_;simp;omega
theorem Y1{c:Nat->fE}{ry:Δ Nat}{b:Nat×Nat}(d:b∈opens r c ry p):ry[b.2]?=σ b.1/\uj r (c b.1)=true:=by unfold opens at d;have⟨e,g⟩:=fU.mp d;have:=oA.mp e;rw[dL]at this;split at this;{exact⟨this,g⟩};cases this
theorem QX{c:Nat->fE}{ry:Δ Nat}:(opens r c ry p).Pairwise λa d=>a.2<d.2:=by induction p with|zero=>simp[opens]|succ p g=>cases h:ry[p]? with|none=>(have j:Λ ry<=p:=(by simpa using h);have i:opens r c ry (p+1)=opens r c ry p:=(by unfold opens;rw[aQ (by omega),aQ j]);rw[i];exact g)|some l=>rw[yL h,jG];refine⟨g,by split<;>simp,λa e d b=>?_⟩;split at b;{simp at b;subst b;unfold opens at e;have:=oA.mp (fU.mp e).1;have:=(ah.mp this).1;simp at this;omega};simp at b
def zI(s:Bool)(F G:Nat->fE)(ry:Δ Nat)(ops:Δ (Nat×Nat)):Δ fE:=ry.zipIdx.map λp=>if p∈ops then kS s (F p.1) (G p.1)else F p.1
theorem QY{b c:Nat->fE}{ry:Δ Nat}:(zI r b c ry s).length=Λ ry:=by simp[zI]
theorem acO{b c:Nat->fE}{ry:Δ Nat}:zI r b c ry []=ry.map b:=by unfold zI;apply dr;intro d;simp[List.getElem?_zipIdx];cases ry[d]?<;>rfl
theorem WL{s:Bool}{F G:Nat->fE}{ry:Δ Nat}{b:Δ (Nat×Nat)}(c:ry[p]?=σ u)(d:(u,p)∉b):(zI s F G ry b)[p]?=σ (F u):=by unfold zI;simp[List.getElem?_zipIdx,c,d]
theorem QZ{F G:Nat->fE}{ry:Δ Nat}(e:ry[p]?=σ u):(zI r F G ry s).set p (kS r (F u) (G u))=zI r F G ry (s++[(u,p)]):=by apply dr;intro b;have i:=(ah.mp e).1;rw[bK];by_cases d:p=b;{subst d;rw[aN rfl,aN (by rw[QY];exact i)];unfold zI;simp[List.getElem?_zipIdx,e]};rw[aH d];unfold zI;simp only[List.getElem?_map,List.getElem?_zipIdx,Nat.zero_add];cases hi:ry[b]? with|none=>rfl|some q=>have:(q,b)∈s++[(u,p)]↔(q,b)∈s:=(by simp;intro _ g;exact absurd g.symm d);simp only[Option.map_some];by_cases c:(q,b)∈s;{rw[aN c,aN (this.mpr c)]};rw[aH c,aH (mt this.mp c)]
theorem Y2{d:Bool}{F G:Nat->fE}{ry:Δ Nat}{e:Δ (Nat×Nat)}{c b:Nat}(g:ry[c]?=σ b)(l:(b,c)∉e)(j:kS d (F b) (G b)=F b):zI d F G ry e=zI d F G ry (e++[(b,c)]):=by rw[<- QZ g,j];have:=WL (s:=d) (F:=F) (G:=G) g l;apply dr;intro m;rw[bK];by_cases i:c=m;{subst i;rw[aN rfl,this,aN (ah.mp this).1]};rw[aH i]
theorem acP{s:Bool}{F G:Nat->fE}{ry:Δ Nat}:zI s F G ry (opens s F ry (Λ ry))=ry.map λb=>kS s (F b) (G b):=by unfold zI;apply dr;intro e;simp only[List.getElem?_map,List.getElem?_zipIdx,Nat.zero_add];cases hj:ry[e]? with|none=>rfl|some b=>simp only[Option.map_some];congr 1;have d:(b,e)∈opens s F ry (Λ ry)↔uj s (F b)=true:=(by unfold opens;rw[eF,fU,oA];simp[hj]);by_cases c:uj s (F b)=true;{rw[aN (d.mpr c)]};rw[aH (λg=>c (d.mp g))];cases hf:F b with|inr j=>rfl|inl i=>rw[hf]at c;simp only[uj,Bool.not_eq_true',Bool.not_eq_false]at c;simp[kS,c]
theorem Tryz.Eg:(prog.info? 3).map (λb=>(b.zero,b.size,b.bytes))=σ (σ (ι κ 0),1,8):=by kernel_rfl
theorem yM{w:ω}{size n k:Nat}{v:υ}{xs:Δ υ}(c:Φ w p x size v n xs)(b:Ω v=σ k):p<=k/\k<w.heap.size:=by rcases c.2 with⟨rfl,-⟩|⟨i,g,cur,rfl,e,d,-⟩;{cases b};cases b;exact⟨e,aA d⟩
structure Eh (b w1 wr:ω)(v:υ)(s:Bool)(f:Nat->fE)(ry:Δ Nat)(i:Nat)(vo vr:υ):Prop where
 out:Φ wr b.heap.size 305 4 v (Λ ry) ((ry.map f).flatMap km)
 op:Φ wr w1.heap.size 3 1 vo (opens s f ry i).length ((opens s f ry i).map λp=>oH p.2)
 rw':Φ wr w1.heap.size 3 1 vr (opens s f ry i).length ((opens s f ry i).map λp=>oH p.1)
 sep:∀k,Ω vo=σ k->Ω vr≠σ k
 old:∀k,Ω v=σ k->k<w1.heap.size
 OV:δ b.heap.size b wr
 sz:w1.heap.size<=wr.heap.size
 bsz:b.heap.size<=w1.heap.size
theorem Eh.alloc{wr:ω}{v:υ}{f:Nat->fE}{ry:Δ Nat}(c:Eh i o wr v r f ry p l b)(d:Obj):Eh i o (wr.alloc d) v r f ry p l b:=
 ⟨c.out.alloc d,c.op.alloc d,c.rw'.alloc d,c.sep,c.old,c.OV.alloc c.OV.size d,by simp;have:=c.sz;omega,c.bsz⟩
theorem Eh.push{wr D:ω}{v:υ}{g:Bool}{f:Nat->fE}{ry:Δ Nat}{r:Nat}(c:Eh i o wr v g f ry p l b)(R:ry[p]?=σ r)(Q:uj g (f r)=true){s:Obj}{G:Nat}
 (x:Φ V o.heap.size 3 1 (ψ (σ ⟨u,0,ν⟩) ((opens g f ry p).length+1) z) ((opens g f ry p).length+1) (((opens g f ry p).map λC=>oH C.2)++[oH p])) (A:(wr.alloc e).grownBy V (Ω l)) (K:Ω l=σ u\/wr.heap.size+1<=u)
 (N:Φ D o.heap.size 3 1 (ψ (σ ⟨P,0,ν⟩) ((opens g f ry p).length+1) G) ((opens g f ry p).length+1) (((opens g f ry p).map λC=>oH C.1)++[oH r])) (t:(V.alloc s).grownBy D (Ω b)) (L:Ω b=σ P\/V.heap.size+1<=P) :
 Eh i o D v g f ry (p+1) (ψ (σ ⟨u,0,ν⟩) (opens g f ry (p+1)).length z) (ψ (σ ⟨P,0,ν⟩) (opens g f ry (p+1)).length G):=by
 have y:opens g f ry (p+1)=opens g f ry p++[(r,p)]:=by rw[yL R,aN Q]
 have E:(opens g f ry (p+1)).length=(opens g f ry p).length+1:=by rw[y];simp
 have U:u<V.heap.size:=(yM x rfl).2;have H:∀k,Ω b=σ k->k<wr.heap.size:=λk d=>(yM c.rw' d).2;have X:wr.heap.size+1<=V.heap.size:=by have:=A.size;simpa using this
 have F:∀k,Ω b=σ k->u≠k:=λk d O=>by
  subst O;rcases K with j|j
  . exact c.sep u j d
  . have:=H u d;omega
 have I:=eG (c.out.alloc e) A (λk d m=>by have M:=(yM c.op d).1;have x:=c.old k m;omega);have zS:δ i.heap.size i V:=(c.OV.alloc c.OV.size e).grown A (by simp;have:=c.OV.size;omega) (λk d=>ay c.bsz (yM c.op d).1);refine⟨eG (I.alloc s) t (λk d m=>by have M:=(yM c.rw' d).1;have x:=c.old k m;omega),?_,?_,λk d T=>?_,c.old,(zS.alloc zS.size s).grown t (by simp;have:=zS.size;omega) (λk d=>ay c.bsz (yM c.rw' d).1),?_,c.bsz⟩;{rw[E,y,cT];exact eG (x.alloc s) t (λk d m=>F k d (by cases m;rfl))};{rw[E,y,cT];exact N};{cases d;cases T;rcases L with j|j;{exact F _ j rfl};omega};have:=t.size;simp at this;have:=c.sz;omega
def Ej(a b:Int):Int×Bool:=(wrap64 (a - b),decide (a<wrap64 (a - b))==decide (b<0))
def xE(o:Nat)(a b:Int):Int×Bool:=
 if o=0 then(wrap64 (a+b),decide (wrap64 (a+b)<a)==decide (b<0))
 else if o=1 then Ej a b
 else if o=2 then(if a=0 then(0,true)else if a=-1 then Ej 0 b else(wrap64 (a*b),IntKind.i64.wrap ((wrap64 (a*b)).tdiv a)==b))
 else if o=3 then(if b=0 then(0,false)else if b=-1 then Ej 0 a else(IntKind.i64.wrap (a.tdiv b),true))
 else if b=0 then(0,false)else(a.tmod b,true)
def CX(f:Nat)(args:Array υ)(p:Int×Bool):Prop:=∀w,Calls prog f args w λr w'=>r=τ (.tuple #[ι κ p.1,.bool p.2])/\δ w.heap.size w w'
theorem UX(a b:Int):CX 297 #[ι κ a,ι κ b] (Ej a b):=by intro w;go_in;go_wp2;(try simp only[Exit.inBlock,Exit.then]);refine aE (v:=.tuple #[ι κ (wrap64 (a - b)),.bool (decide (a<wrap64 (a - b))==decide (b<0))]) (by simp[results,results297,go_sem];try rfl) rfl ⟨rfl,aj _ _⟩
set_option linter.unusedSimpArgs false in
theorem agG(a b:Int):CX 327 #[ι κ a,ι κ b] (xE 0 a b)/\CX 328 #[ι κ a,ι κ b] (xE 2 a b)/\CX 329 #[ι κ a,ι κ b] (xE 3 a b)/\CX 330 #[ι κ a,ι κ b] (xE 4 a b):=by
 have f:∀c:Int,c=0\/c=-1\/c≠0/\c≠-1/\(c==0)=false/\(c==-1)=false:=λc=>by
  by_cases o:c=0<;>by_cases d:c=-1<;>simp[o,d]
 have d:∀n,IntKind.i64.wrap n=wrap64 n:=λn=>by unfold wrap64;exact nL n
 refine⟨?_,?_,?_,?_⟩;all_goals intro w
 case' refine_2=>rcases f a with rfl|rfl|⟨e,g,j,l⟩
 case' refine_3=>rcases f b with rfl|rfl|⟨e,g,j,l⟩
 case' refine_4=>rcases f b with rfl|rfl|⟨e,g,j,l⟩
 all_goals go_in;go_wp21;(try(refine(UX 0 _ _).mono ?_;rintro p r ⟨rfl,i⟩;have m:=ak i;clear i;go_wp2_with fail));(try go_region);all_goals (try go_wp2);(try simp only[Exit.inBlock,Exit.then]);refine aE (by simp[results,results327,results328,results329,results330,go_sem];rfl) rfl ⟨?_,?_⟩;{first|rfl|(simp[xE,e,g,d];done)|(simp[xE,d];done)};repeat(first|exact aj _ _|exact m.J|refine aP ?_)
theorem ak6(c:Nat)(t:c<=4)(a b:Int):CX 317 #[ι κ c,ι κ a,ι κ b] (xE c a b):=by
 intro w;have s:c=0\/c=1\/c=2\/c=3\/c=4:=by omega
 obtain⟨g,i,j,l⟩:=agG a b;have m:=ak (g w);have d:=ak (show Calls _ _ _ _ _ from UX a b w);rw[show Ej a b=xE 1 a b from rfl]at d;have o:=ak (i w);have p:=ak (j w);have r:=ak (l w);clear t g i j l;rcases s with rfl|rfl|rfl|rfl|rfl<;>(
  go_in;go_wp21
  first
   |refine m.J.mono ?_
   |refine d.J.mono ?_
   |refine o.J.mono ?_
   |refine p.J.mono ?_
   |refine r.J.mono ?_
  rintro x y ⟨rfl,e⟩;have u:=ak e;clear e;go_wp2
  (try simp only[Exit.inBlock,Exit.then])
  exact aE (v:=.tuple #[ι κ (xE _ a b).1,.bool (xE _ a b).2]) (by simp[results,results317,go_sem];try rfl) rfl ⟨rfl,u.J⟩)
def Q9(p:Int×Bool):fE:=if p.2 then .inl (ox p.1)else .inr 0
theorem xF(b:Bool)(w:ω):Calls prog 161 #[.bool b] w λc w'=>c=τ (CU (.inl (iy b)))/\δ w.heap.size w w':=by cases b;all_goals go_in;go_wp2;refine aE (v:=χ #[.bool false,ι κ _,θ ⟨#[]⟩,.bool false]) (by simp[results,results161,go_sem];rfl) rfl ?_;exact⟨rfl,by repeat(first|exact aj _ _|refine fx ?_ (by simp) _|refine gw ?_ (by simp) _)⟩
theorem Ra(b:Int×Bool)(w:ω):Calls prog 296 #[ι κ b.1,.bool b.2] w λc w'=>c=τ (CU (Q9 b))/\δ w.heap.size w w':=by have⟨n,d⟩:=b;cases d;all_goals go_in;go_wp2;refine aE (v:=χ #[.bool false,ι κ _,θ ⟨#[]⟩,.bool _]) (by simp[results,results296,go_sem];exact⟨rfl,rfl⟩) rfl ?_;exact⟨rfl,by repeat(first|exact aj _ _|refine fx ?_ (by simp) _|refine gw ?_ (by simp) _)⟩
def CY(o:Nat)(d:Int):Bool:=if o=5 then decide (d=0)else if o=6 then decide (d≠0)else if o=7 then decide (d<0)else if o=8 then decide (d<=0)else if o=9 then decide (d>0)else decide (d>=0)
theorem Y8(b:Nat)(e:5<=b)(g:b<=10)(c:Int)(w:ω):Calls prog 314 #[ι κ b,ι κ c] w λd w'=>d=τ (.bool (CY b c))/\w'=w:=by
 have i:b=5\/b=6\/b=7\/b=8\/b=9\/b=10:=by omega
 clear e g;rcases i with rfl|rfl|rfl|rfl|rfl|rfl
 all_goals go_in;go_wp2;go_ret;exact⟨by first|rfl|(congr 1;simp[CY];done)|(simp[CY,bne,BEq.beq];done),rfl⟩
abbrev sP:Obj:=.cells #[.bool false,.int .i64 0,.string ⟨#[]⟩,.bool false] 305
abbrev nJ(c:aF):Obj:=.cells #[.bool c.bH,.int .i64 c.n,.string c.s] 263
theorem Y9{w W:ω}{B:Nat}(d:W.heap[p]?=σ (ξ #[.bool false,ι κ 0,θ ⟨#[]⟩,.bool false] 305 (0,0)))(m:δ B w W)(l:δ W.heap.size W i)(c:B<=p) :
 (Ξ i ⟨p,0,ν⟩=σ (.bool false)/\Ξ i ⟨p,1,ν⟩=σ (ι κ 0)/\Ξ i ⟨p,2,ν⟩=σ (θ ⟨#[]⟩)/\Ξ i ⟨p,3,ν⟩=σ (.bool false))/\(i.frozen? ⟨p,0,ν⟩=false/\i.frozen? ⟨p,1,ν⟩=false/\i.frozen? ⟨p,2,ν⟩=false/\i.frozen? ⟨p,3,ν⟩=false)/\
 ∀a e g j,δ B w ((((i.setCell ⟨p,0,ν⟩ a).setCell ⟨p,1,ν⟩ e).setCell ⟨p,2,ν⟩ g).setCell ⟨p,3,ν⟩ j):=by
 have b:=(l.block p (aA d)).trans d;refine⟨⟨bB b 0,bB b 1,bB b 2,bB b 3⟩,⟨jd b 0,jd b 1,jd b 2,jd b 3⟩,λa e g j=>?_⟩;have o:B<=W.heap.size:=by have:=aA d;omega
 have:=m.trans (l.mono o);exact(((this.setCell c _).setCell c _).setCell c _).setCell c _
theorem wJ(w:ω)(b c:Obj):δ w.heap.size w ((w.alloc b).alloc c)/\((w.alloc b).alloc c).heap[w.heap.size+1]?=σ c/\((w.alloc b).alloc c).heap[w.heap.size]?=σ b:=by refine⟨((aj _ _).alloc (ae _) _).alloc (by simp) _,?_,(dA _ _ _ (by simp)).trans (az w _)⟩;have:=az (w.alloc b) c;simpa using this
theorem Ek(w:ω)(b c d:Obj):δ w.heap.size w (((w.alloc b).alloc c).alloc d)/\(((w.alloc b).alloc c).alloc d).heap[w.heap.size+2]?=σ d:=by refine⟨(wJ w b c).1.alloc (by simp;omega) _,?_⟩;have:=az ((w.alloc b).alloc c) d;simpa using this
theorem ak7(b:aF)(w:ω):Calls prog 294 #[eB b] w λg w'=>g=τ (CU (.inl (iy (decide (b.n=0)))))/\δ w.heap.size w w':=by have c:=wJ w (nJ b) sP;have o:=(xF (b.n==0) ((w.alloc (nJ b)).alloc sP));have m:=ak (λe (s:δ _ _ e)=>Y9 c.2.1 c.1 s (by omega));clear c;unfold eB;go_in;go_wp21;refine o.mono ?_;rintro g e ⟨rfl,j⟩;have⟨A,C,D,r,t,d⟩:=jD (.inl (iy (b.n==0)));have⟨⟨u,x,y,z⟩,⟨E,F,G,H⟩,i⟩:=m.J e j;have l:=ak i;have p:=ak d;rw[d];clear j i t d;go_wp2;(try simp only[Exit.inBlock,Exit.then]);refine aE (v:=χ #[.bool A,ι κ C,θ D,.bool r]) (by simp[results,results294,go_sem,u,x,y,z];try rfl) rfl ?_;exact⟨by rw[<- p.J];rfl,l.J _ _ _ _⟩
theorem ak8(b:aF)(w:ω):Calls prog 295 #[eB b] w λd w'=>d=τ (CU (Q9 (Ej 0 b.n)))/\δ w.heap.size w w':=by have e:=wJ w (nJ b) sP;have i:=ak (UX 0 b.n ((w.alloc (nJ b)).alloc sP));have t:=ak (λp (y:δ _ _ p)=>Y9 e.2.1 e.1 y (by omega));obtain⟨c,o⟩:∃c,c=Ej 0 b.n:=⟨_,rfl⟩;rw[<- o]at i ⊢;have s:=(Ra c);clear e o;unfold eB;go_in;go_wp21;refine i.J.mono ?_;rintro d p ⟨rfl,j⟩;go_wp21;refine(s _).mono ?_;rintro d F ⟨rfl,m⟩;have⟨G,H,I,x,z,g⟩:=jD (Q9 c);have⟨⟨A,C,D,E⟩,⟨K,L,M,N⟩,l⟩:=t.J F (j.trans (m.mono j.size));have r:=ak l;have u:=ak g;rw[g];clear m l z g;go_wp2;(try simp only[Exit.inBlock,Exit.then]);refine aE (v:=χ #[.bool G,ι κ H,θ I,.bool x]) (by simp[results,results295,go_sem,A,C,D,E];try rfl) rfl ?_;exact⟨by rw[<- u.J],r.J _ _ _ _⟩
theorem ak9(b:aF)(e:Bool)(A:υ){q:Nat}{w:ω}(d:w.heap[q]?=σ (ξ #[A,.bool e] x (0,0))):Calls prog 284 #[eB b,π (σ ⟨q,0,ν⟩)] w λj w'=>j=τ (CU (.inl (iy (b.bH != e))))/\δ w.heap.size w w':=by have c:=wJ w (nJ b) sP;have r:=(xF (b.bH != e) ((w.alloc (nJ b)).alloc sP));have p:=ak (λi (y:δ _ _ i)=>Y9 c.2.1 c.1 y (by omega));have t:=bB ((c.1.block q (aA d)).trans d) 1;simp only[List.getElem?_toArray,List.getElem?_cons_zero,List.getElem?_cons_succ]at t;have K:=aA d;clear c d;unfold eB;go_in;go_wp21;refine r.mono ?_;rintro j i ⟨rfl,m⟩;have⟨G,H,I,u,z,g⟩:=jD (.inl (iy (b.bH != e)));have⟨⟨C,D,E,F⟩,⟨L,M,N,O⟩,l⟩:=p.J i m;have o:=ak l;have s:=ak g;rw[g];clear m l z g;go_wp2;(try simp only[Exit.inBlock,Exit.then]);refine aE (v:=χ #[.bool G,ι κ H,θ I,.bool u]) (by simp[results,results284,go_sem,C,D,E,F];try rfl) rfl ?_;exact⟨by rw[<- s.J],o.J _ _ _ _⟩
def unO(W:aF->fE)(c:aF):fE:=if c.bH then .inl c else W c
theorem apr{a:ω}{lo q:Nat}{C:aF->Prop}{W:aF->fE}(N:xw a lo l C W)(A:lH lo a.heap.size a i)(g:i.heap[q]?=σ (ξ #[l] x (0,0)))(b:aF)(z:C b) :
 Calls prog 293 #[eB b,π (σ ⟨q,0,ν⟩)] i λs G=>s=τ (CU (unO W b))/\δ i.heap.size i G:=by obtain⟨n,Z,rfl,K,t⟩:=N;have c:=wJ i (nJ b) sP;have j:=ak (t ((i.alloc (nJ b)).alloc sP) (A.aU c.1) b z);have D:=ak (λr (I:δ _ _ r)=>Y9 c.2.1 c.1 I (by omega));have F:=bB ((c.1.block q (aA g)).trans g) 0;simp only[List.getElem?_toArray,List.getElem?_cons_zero]at F;have Y:=aA g;unfold Enters at K;clear t A g c z;have⟨O,d,e⟩:=b;unfold eB at j ⊢;cases O with|true=>(go_in;go_wp2;(try simp only[Exit.inBlock,Exit.then]);refine aE (v:=χ #[.bool true,ι κ d,θ e,.bool false]) (by simp[results,results293,go_sem];try rfl) rfl ?_;refine⟨rfl,?_⟩;repeat(first|exact aj _ _|refine fx ?_ (by simp) _|refine gw ?_ (by simp) _))|false=>have m:=ak (show unO W ⟨false,d,e⟩=W ⟨false,d,e⟩from rfl);obtain⟨o,u⟩:∃o,o=W ⟨false,d,e⟩:=⟨_,rfl⟩;rw[<- u]at j m;rw[m.J];clear u m;go_in;go_wp21;refine j.J.mono ?_;rintro s r ⟨rfl,y⟩;have⟨U,V,X,H,M,p⟩:=jD o;have⟨⟨P,Q,R,T⟩,⟨z0,z1,z2,z3⟩,L⟩:=D.J r y;have E:=ak p;rw[p];clear y M p;go_wp2;(try simp only[Exit.inBlock,Exit.then]);refine aE (v:=χ #[.bool U,ι κ V,θ X,.bool H]) (by simp[results,results293,go_sem,P,Q,R,T];try rfl) rfl ?_;exact⟨by rw[<- E.J],L _ _ _ _⟩
set_option linter.unusedSimpArgs false in
theorem alF{a:ω} {lo q:Nat}   {ok:Δ aF->Prop} {g t:Δ aF->fE}  (hc:fN a lo l ok g) (b9:fN a lo b ok t) (hF:∀row,ok row->∀A,g row=.inl A->xy A) (hG:∀row,ok row->∀A,t row=.inl A->xy A) (P:lH lo a.heap.size a i) (hq:i.heap[q]?=σ (ξ #[l] x (0,0))) (FP:i.heap[p]?=σ (ξ #[.bool false,ι κ (iy r).n,θ ⟨#[]⟩,.bool false] j (0,0))) (Le:i.heap[u]?=σ (ξ #[b] X (0,0)))  {d:Δ (Δ aF)} {ry:Δ Nat} (hb:ft i y d) (hr:lR i M ry) (rj:CV d ry) (hl:Λ ry<=64) (oI:∀c∈ry,ok (cj d c)) :
 Calls prog 311 #[y,M,π (σ ⟨q,0,ν⟩),π (σ ⟨p,0,ν⟩),π (σ ⟨u,0,ν⟩)] i λc b'=>∃v,c=τ v/\Φ b' i.heap.size 305 4 v (Λ ry) ((ry.map λc=>kS r (g (cj d c)) (t (cj d c))).flatMap km)/\δ i.heap.size i b':=by
 obtain⟨n,kF,rfl,hE,hC⟩:=hc;obtain⟨n1,Ay,rfl,b7,bg⟩:=b9;have HC:=(hC i P y d M ry hb hr rj hl oI);have OO:=(λw (cI:δ i.heap.size i w) ov (qh:Δ Nat) (H:lR w ov qh) (h2:∀c∈qh,c∈ry) (h3:Λ qh<=64)=>bg w (P.aU cI) y d ov qh (hb.aU cI (ae _)) H (λc z=>rj c (h2 c z)) h3 (λc z=>oI c (h2 c z)));have HF:=(λc (z:c∈ry)=>hF _ (oI c z));have HG:=(λc (z:c∈ry)=>hG _ (oI c z));have⟨ra,Ef,Kf⟩:=aS.slice hr;subst Kf;have PB:=ak FP;have b1:=ak Le;have c0:=bB hq 0;simp at c0;have Y6:=aA FP;have b4:=aA Le;unfold Enters at hE b7;clear hC bg P hb hq FP Le rj oI hF hG;go_in;go_wp21;refine HC.mono ?_;rintro N F ⟨v,rfl,dy,cI⟩;obtain⟨va,eH,rfl,QJ,Ib⟩:=cR dy;have b2:Hid (Eh i F F (ψ va (Λ ry) eH) r (λc=>g (cj d c)) ry 0 (ψ ν 0 0) (ψ ν 0 0)):=ak ⟨dy,by simpa[opens]using eM _ _ _ _,by simpa[opens]using eM _ _ _ _,λk z=>(by cases z),λk z=>(yM dy z).2,cI,ae _,cI.size⟩;have a4:=ak QJ;clear dy cI QJ HC c0;go_wp2;go_loopw[9,10,22] (λc0 c1 c2 wr=>∃(o:Nat) (T:Option Addr) (L:Nat) (U:Option Addr) (V:Nat),o<=Λ ry/\c0=ψ T (opens r (λc=>g (cj d c)) ry o).length L/\c1=ψ U (opens r (λc=>g (cj d c)) ry o).length V/\c2=ι κ o/\Hid (Eh i F wr (ψ va (Λ ry) eH) r (λc=>g (cj d c)) ry o (ψ T (opens r (λc=>g (cj d c)) ry o).length L) (ψ U (opens r (λc=>g (cj d c)) ry o).length V))) (λ_ _ A _=>Λ ry - (intOf A).toNat);case atStart=>exact⟨0,ν,0,ν,0,aB _,rfl,rfl,rfl,b2⟩
 case round=>
  obtain⟨o,T,L,U,V,hi,rfl,rfl,rfl,HA⟩:=hrel;by_cases cK:o<Λ ry
  .have gY:=aX.2 cK;obtain⟨s,rfl,hg⟩:=a4.J (by omega);obtain⟨c,qt⟩:∃c,ry[o]?=σ c:=⟨ry[o],af cK⟩;have rA:=aq qt;have BV:=ak qt;have gW:(ry.map λc=>g (cj d c))[o]?=σ (g (cj d c)):=(by rw[bp,qt];rfl)
   have bl:=Mx r (λc=>g (cj d c)) ry o;obtain⟨x1,y1,z1,e1,D,-⟩:=jD (g (cj d c));have⟨⟨d0,d1,d2,d3⟩,fz⟩:=lX HA.J.out gW D;obtain⟨E,Kp⟩:∃aa,aa=Obj.cells #[.bool x1,ι κ y1,θ z1,.bool e1] 305:=⟨_,rfl⟩;have K:=(HA.J.alloc E);have R:=(K.OV.block p Y6).trans PB.J;have s0:=bB R 0;have s1:=bB R 1;have s2:=bB R 2;have s3:=bB R 3;simp only[List.getElem?_toArray,List.getElem?_cons_zero,List.getElem?_cons_succ]at s0 s1 s2 s3;have am:Hid (uj r (g (cj d c))=false->∃(m:Nat) (a1:Option Addr) (a2:Nat) (bd:Option Addr) (be:Nat),m<=Λ ry/\Value.slice T (opens r (λc=>g (cj d c)) ry o).length L=ψ a1 (opens r (λc=>g (cj d c)) ry m).length a2/\Value.slice U (opens r (λc=>g (cj d c)) ry o).length V=ψ bd (opens r (λc=>g (cj d c)) ry m).length be/\Value.int κ ((o:Int)+1)=ι κ m/\Hid (Eh i F (wr.alloc E) (ψ (σ ⟨s,0,ν⟩) (Λ ry) eH) r (λc=>g (cj d c)) ry m (ψ a1 (opens r (λc=>g (cj d c)) ry m).length a2) (ψ bd (opens r (λc=>g (cj d c)) ry m).length be))):=ak (λz=>by
    have N:opens r (λc=>g (cj d c)) ry (o+1)=opens r (λc=>g (cj d c)) ry o:=by rw[yL BV.J];simp[z]
    refine⟨o+1,T,L,U,V,by omega,by rw[N],by rw[N],by push_cast;rfl,ak ?_⟩;have H:=K;exact⟨H.out,by rw[N];exact H.op,by rw[N];exact H.rw',by rw[N];exact H.sep,H.old,H.OV,H.sz,H.bsz⟩)
   cases hf:g (cj d c)with
   |inr N=>rw[hf]at D;simp[km]at D;obtain⟨rfl,rfl,rfl,rfl⟩:=D;have HN:=ak (am.J (by rw[hf];rfl));clear hf qt gW rA am;subst Kp;go_wp2;go_roundw;(case rel=>exact HN.J);case measure=>simp[intOf];omega
   |inl A=>
    have ai:=HF c rA A hf;rw[hf]at D;by_cases qe:uj r (g (cj d c))=true
    .have Yk:=ak qe;rw[hf]at qe;have⟨g2,o2,vE,ca,c4⟩:=lR.get (aS.aU hr K.OV (ae _)) BV.J;cases ca;have bn:=ak (λw (lu:δ i.heap.size i w)=>lR.get (aS.aU hr lu (ae _)) BV.J);clear hf qt gW rA am;rcases ai with rfl|rfl|rfl<;>cases r<;>first
      | (simp[uj,Y0,fj,ox]at qe;done)
      | (clear qe
         simp[km,fj,ox]at D;obtain⟨rfl,rfl,rfl,rfl⟩:=D;subst Kp;simp[iy,ox]at s1;go_wp2_with(at_builtin;refine nW rfl _ _ 36 rfl (base:=F.heap.size) underlying36 Tryz.Eg ⟨rfl,by decide,by decide⟩ rfl K.op rfl (by simp) rfl ?k5 ?k6 ?k7 ?_)
         case k5=>simp[Value.oneCell']
         case k6=>omega
         case k7=>exact K.sz
         intro g3 qF w3 oN kH vP;have r7:Hid (δ i.heap.size i w3):=ak ((K.OV.alloc K.OV.size _).grown kH (by simp;have:=HA.J.OV.size;omega) (λk P=>ay HA.J.bsz (yM K.op P).1));have an:Hid (Φ w3 F.heap.size 3 1 (ψ U (opens _ (λc=>g (cj d c)) ry o).length V) (opens _ (λc=>g (cj d c)) ry o).length ((opens _ (λc=>g (cj d c)) ry o).map λC=>oH C.1)):=ak (eG (K.rw'.alloc _) kH (λk P=>K.sep k P));have al:Hid (F.heap.size<=w3.heap.size):=ak (by have:=kH.size;simp at this;have:=HA.J.sz;omega);have⟨g4,o4,ci,cc,c5⟩:=bn.J w3 r7.J
         cases cc
         have b0:=ak vP;clear vP;go_wp2_with(at_builtin;refine nW rfl _ _ 36 rfl (base:=F.heap.size) underlying36 Tryz.Eg ⟨rfl,by decide,by decide⟩ rfl an.J rfl (by simp) rfl ?k5 ?k6 ?k7 ?_)
         case k5=>simp[Value.oneCell']
         case k6=>omega
         case k7=>exact al.J
         intro g5 ck w5 a7 a5 a8;have HN:=ak (K.push BV.J Yk.J oN kH (by simpa using b0.J) a7 a5 a8);have wR:Hid ((opens _ (λc=>g (cj d c)) ry (o+1)).length=(opens _ (λc=>g (cj d c)) ry o).length+1):=ak (by rw[yL BV.J,aN Yk.J];simp;rfl);clear a7 a5 a8;go_wp2;go_roundw
         case rel=>exact⟨o+1,_,_,_,_,by omega,by rw[wR.J],by rw[wR.J],by push_cast;rfl,HN⟩
         case measure=>simp[intOf];omega)
    have ap:uj r (g (cj d c))=false:=(by simpa using qe);have HN:=ak (am.J ap);rw[hf]at ap;clear hf qt gW rA am qe;rcases ai with rfl|rfl|rfl<;>cases r<;>first
     | (simp[uj,Y0,fj,ox]at ap;done)
     | (clear ap
        simp[km,fj,ox]at D;obtain⟨rfl,rfl,rfl,rfl⟩:=D;subst Kp;simp[iy,ox]at s1;go_wp2;go_roundw
        case rel=>exact HN.J
        case measure=>simp[intOf];omega)
  obtain rfl:o=Λ ry:=by omega
  obtain⟨e,G⟩:∃cd,cd=opens r (λc=>g (cj d c)) ry (Λ ry):=⟨_,rfl⟩;have bl:=Mx r (λc=>g (cj d c)) ry (Λ ry);have a9:=ak (λC (z:C∈e)=>Y1 (by rw[G]at z;exact z));have bx:=(show e.Pairwise λa i=>a.2<i.2 from by rw[G];exact QX);have yr:=ak (acP (s:=r) (F:=λc=>g (cj d c)) (G:=λc=>t (cj d c)) (ry:=ry));rw[<- G]at yr bl;have Z:=HA.J;have Yk:Hid (Φ wr F.heap.size 3 1 (ψ T (Λ e) L) (Λ e) (e.map λC=>oH C.2)):=ak (by rw[G];exact Z.op);have an:Hid (Φ wr F.heap.size 3 1 (ψ U (Λ e) V) (Λ e) (e.map λC=>oH C.1)):=ak (by rw[G];exact Z.rw');have ba:=Z.out;have bH:=ak Z.old;have oZ:=Z.OV;have al:=ak Z.sz;have cl:=ak Z.bsz;rw[<- G];clear Z HA G;have c1:=bB ((oZ.block u b4).trans b1.J) 0;simp at c1;have tH:=ak (OO wr oZ (ψ U (Λ e) V) (e.map Prod.fst) (by have:=aS.dE an.J;unfold lR;rw[iL,bk];exact this) (λc hr=>by obtain⟨C,hp,rfl⟩:=cP.mp hr;exact aq (a9.J C hp).1) (by rw[bk];omega));rw[bk,iL]at tH;go_wp21;refine tH.J.mono ?_;rintro N w2 ⟨v2,rfl,D8,cW⟩;obtain⟨cf,Ei,rfl,Y7,cq⟩:=cR D8;have cn:=ak (ay al.J cW.size);have b5:Hid (Φ w2 i.heap.size 305 4 (ψ va (Λ ry) eH) (Λ ry) ((zI r (λc=>g (cj d c)) (λc=>t (cj d c)) ry (e.take 0)).flatMap km)):=ak (by rw[mC,acO];exact cO ba cW);have b6:=ak (cO Yk.J cW);have bb:=ak D8;have a6:=ak Y7;have bo:Hid (wr.heap.size<=w2.heap.size):=ak cW.size;have Oh:=ak (oZ.trans (cW.mono oZ.size));have b3:=ak (cR Yk.J);clear D8 cW Y7 tH c1;obtain⟨ab,hN⟩:∃ab,ab=wr.heap.size:=⟨_,rfl⟩;have bt:Hid (F.heap.size<=ab):=ak (by rw[hN];exact al.J);have cg:Hid (∀k,(Value.slice T (Λ e) L).ownBlock=σ k->F.heap.size<=k/\k<ab):=ak (λk P=>by rw[hN];exact yM Yk.J P);rw[<- hN]at bb a6;clear Yk an ba oZ al bo;go_wp2;go_loopw[52] (λA wr=>∃k:Nat,k<=Λ e/\A=ι κ k/\Hid (Φ wr i.heap.size 305 4 (ψ va (Λ ry) eH) (Λ ry) ((zI r (λc=>g (cj d c)) (λc=>t (cj d c)) ry (e.take k)).flatMap km))/\Hid (Φ wr F.heap.size 3 1 (ψ T (Λ e) L) (Λ e) (e.map λC=>oH C.2))/\Hid (Φ wr ab 305 4 (ψ cf (Λ e) Ei) (Λ e) ((e.map ((λc=>t (cj d c)) ∘ Prod.fst)).flatMap km))/\Hid (δ i.heap.size i wr)) (λA _=>Λ e - (intOf A).toNat);case atStart=>exact⟨0,aB _,rfl,b5,b6,bb,Oh⟩
  case round=>
   obtain⟨k,P,rfl,HO,bz,FT,LI⟩:=hrel;by_cases bi:k<Λ e
   .have cp:=aX.2 bi;obtain⟨⟨c,m⟩,XQ⟩:∃C,e[k]?=σ C:=⟨e[k],af bi⟩;have⟨Qg,I⟩:=a9.J _ (aq XQ);have hj:=(ah.mp Qg).1;have cy:(m:Int)<Λ ry:=(by omega);obtain⟨s,rfl,hg⟩:=a4.J (by omega);obtain⟨g2,rfl,sF⟩:=a6.J (by omega);obtain⟨a1,a2,cb,b8,-⟩:=b3.J;cases cb;obtain⟨g3,rfl,cx⟩:=b8 (by omega);have QT:s<F.heap.size:=bH.J s rfl;have cv:=bt.J;have a3:(c,m)∉e.take k:=λhm=>by
     have⟨ce,Bv⟩:=cB hm;rw[dL]at Bv;split at Bv
     . have⟨H,h2⟩:=ah.mp Bv
       have⟨h3,h4⟩:=ah.mp XQ;have:=iV.mp bx ce k H h3 (by omega);rw[h2,h4]at this;exact fy _ this
     . cases Bv
    have BF:(e.map ((λc=>t (cj d c)) ∘ Prod.fst))[k]?=σ (t (cj d c)):=(by rw[bp,XQ];rfl);have ye:e.take (k+1)=e.take k++[(c,m)]:=(by rw[bS,XQ];rfl);obtain⟨x2,y2,z2,e2,Q,-⟩:=jD (t (cj d c));obtain⟨x1,y1,z1,e1,D,-⟩:=jD (g (cj d c));have⟨⟨d0,d1,d2,d3⟩,fz⟩:=lX FT.J BF Q;obtain⟨E,Kp⟩:∃aa,aa=Obj.cells #[.bool x2,ι κ y2,θ z2,.bool e2] 305:=⟨_,rfl⟩;have YZ:=ak (LI.J.alloc LI.J.size E);have aT:=(HO.J.alloc E);have a0:=ak (bz.J.alloc E);have bc:=ak (FT.J.alloc E);have⟨⟨u0,u1,u2,u3⟩,cu⟩:=lX aT (WL Qg a3) D;have c3:(wr.alloc E).cell? ⟨g3,k,ν⟩=σ (ι κ m):=(by rw[a0.J.cellAt k (by omega),bp,XQ];rfl)
    have R:=(YZ.J.block p Y6).trans PB.J;have s0:=bB R 0;have s1:=bB R 1;have s2:=bB R 2;have s3:=bB R 3;simp only[List.getElem?_toArray,List.getElem?_cons_zero,List.getElem?_cons_succ]at s0 s1 s2 s3;have Jk:Hid (∀(aa:fE) ac ad ag er,km aa=[.bool ac,ι κ ad,θ ag,.bool er]->kS r (g (cj d c)) (t (cj d c))=aa->
     ∃k':Nat,k'<=Λ e/\Value.int κ ((k:Int)+1)=ι κ k'/\Hid ((((((wr.alloc E).setCell ⟨s,m*4,ν⟩ (.bool ac)).setCell ⟨s,m*4+1,ν⟩ (ι κ ad)).setCell ⟨s,m*4+2,ν⟩ (θ ag)).setCell ⟨s,m*4+3,ν⟩ (.bool er)).ownsRow i.heap.size 305 4 (ψ (σ ⟨s,0,ν⟩) (Λ ry) eH) (Λ ry) ((zI r (λc=>g (cj d c)) (λc=>t (cj d c)) ry (e.take k')).flatMap km))/\Hid ((((((wr.alloc E).setCell ⟨s,m*4,ν⟩ (.bool ac)).setCell ⟨s,m*4+1,ν⟩ (ι κ ad)).setCell ⟨s,m*4+2,ν⟩ (θ ag)).setCell ⟨s,m*4+3,ν⟩ (.bool er)).ownsRow F.heap.size 3 1 (ψ (σ ⟨g3,0,ν⟩) (Λ e) L) (Λ e) (e.map λC=>oH C.2))/\Hid ((((((wr.alloc E).setCell ⟨s,m*4,ν⟩ (.bool ac)).setCell ⟨s,m*4+1,ν⟩ (ι κ ad)).setCell ⟨s,m*4+2,ν⟩ (θ ag)).setCell ⟨s,m*4+3,ν⟩ (.bool er)).ownsRow ab 305 4 (ψ (σ ⟨g2,0,ν⟩) (Λ e) Ei) (Λ e) ((e.map ((λc=>t (cj d c)) ∘ Prod.fst)).flatMap km))/\Hid (δ i.heap.size i (((((wr.alloc E).setCell ⟨s,m*4,ν⟩ (.bool ac)).setCell ⟨s,m*4+1,ν⟩ (ι κ ad)).setCell ⟨s,m*4+2,ν⟩ (θ ag)).setCell ⟨s,m*4+3,ν⟩ (.bool er)))):=ak (λaa ac ad ag er h4 h5=>by
     have O:=((((aT.stored (m*4) (.bool ac)).1.stored (m*4+1) (ι κ ad)).1.stored (m*4+2) (θ ag)).1.stored (m*4+3) (.bool er)).1;rw[Ee (by rw[QY];exact hj) aa h4,<- h5,QZ (F:=λc=>g (cj d c)) (G:=λc=>t (cj d c)) Qg,<- ye]at O;have aC:(Value.slice (σ ⟨g3,0,ν⟩) (Λ e) L).ownBlock≠σ s:=by simp[Value.ownBlock];omega
     have Ku:(Value.slice (σ ⟨g2,0,ν⟩) (Λ e) Ei).ownBlock≠σ s:=by simp[Value.ownBlock];omega
     exact⟨k+1,by omega,by push_cast;rfl,ak O,ak (bO (bO (bO (bO a0.J aC _) aC _) aC _) aC _),ak (bO (bO (bO (bO bc.J Ku _) Ku _) Ku _) Ku _),ak ((((YZ.J.setCell hg _).setCell hg _).setCell hg _).setCell hg _)⟩)
    have MB:Hid (kS r (g (cj d c)) (t (cj d c))=g (cj d c)->∃k':Nat,k'<=Λ e/\Value.int κ ((k:Int)+1)=ι κ k'/\Hid ((wr.alloc E).ownsRow i.heap.size 305 4 (ψ (σ ⟨s,0,ν⟩) (Λ ry) eH) (Λ ry) ((zI r (λc=>g (cj d c)) (λc=>t (cj d c)) ry (e.take k')).flatMap km))/\Hid ((wr.alloc E).ownsRow F.heap.size 3 1 (ψ (σ ⟨g3,0,ν⟩) (Λ e) L) (Λ e) (e.map λC=>oH C.2))/\Hid ((wr.alloc E).ownsRow ab 305 4 (ψ (σ ⟨g2,0,ν⟩) (Λ e) Ei) (Λ e) ((e.map ((λc=>t (cj d c)) ∘ Prod.fst)).flatMap km))/\Hid (δ i.heap.size i (wr.alloc E))):=ak (λz=>⟨k+1,by omega,by push_cast;rfl,ak (by rw[ye,<- Y2 (F:=λc=>g (cj d c)) (G:=λc=>t (cj d c)) Qg a3 z];exact aT),a0,bc,YZ⟩);have rA:=aq Qg;have ax:=HG c rA;have av:=HF c rA;clear a3 BF ye XQ Qg rA;cases hf:g (cj d c)with
    |inr N=>rw[hf]at I;cases I
    |inl A=>
     have ai:=av A hf;rw[hf]at D I;cases nA:t (cj d c)with
     |inr N=>have Jo:=ak (Jk.J (.inr N) false 0 ⟨#[]⟩ true rfl (by rw[hf,nA];simp only[uj,Bool.not_eq_true']at I;simp[kS,I]));rw[nA]at Q;simp[km]at Q;obtain⟨rfl,rfl,rfl,rfl⟩:=Q;clear hf nA Jk MB I D ax av ai;subst Kp;go_wp2;go_roundw;(case rel=>exact Jo.J);case measure=>simp[intOf];omega
     |inl Y=>
      have qZ:=ax Y nA;rw[nA]at Q;have G:Y0 r (.inl A)=false:=(by simpa[uj]using I);cases O:(Y0 r (.inl Y)||!A.bH)with
      |true=>
       have Jo:=ak (Jk.J (.inl Y) Y.bH Y.n Y.s false rfl (by rw[hf,nA];simp only[kS,G,Bool.false_eq_true,if_false];cases hsd:Y0 r (.inl Y)<;>simp[hsd]at O ⊢;simp[O]));clear hf nA Jk MB ax av G;rcases ai with rfl|rfl|rfl<;>rcases qZ with rfl|rfl|rfl<;>cases r<;>first
        | (simp[uj,Y0,fj,ox]at I;done)
        | (simp[Y0,fj,ox]at O;done)
        | (clear I O
           simp[km,fj,ox]at D Q;obtain⟨rfl,rfl,rfl,rfl⟩:=D;obtain⟨rfl,rfl,rfl,rfl⟩:=Q;subst Kp;simp[iy,ox]at s1;go_wp2;go_roundw
           case rel=>exact Jo.J
           case measure=>simp[intOf];omega)
      |false=>
       have Jo:=ak (MB.J (by rw[hf,nA];simp only[kS,G,Bool.false_eq_true,if_false];cases hsd:Y0 r (.inl Y)<;>simp[hsd]at O ⊢;simp[O]));clear hf nA Jk MB ax av G;rcases ai with rfl|rfl|rfl<;>rcases qZ with rfl|rfl|rfl<;>cases r<;>first
        | (simp[uj,Y0,fj,ox]at I;done)
        | (simp[Y0,fj,ox]at O;done)
        | (clear I O
           simp[km,fj,ox]at D Q;obtain⟨rfl,rfl,rfl,rfl⟩:=D;obtain⟨rfl,rfl,rfl,rfl⟩:=Q;subst Kp;simp[iy,ox]at s1;go_wp2;go_roundw
           case rel=>exact Jo.J
           case measure=>simp[intOf];omega)
   obtain rfl:k=Λ e:=(by omega);have ho:=HO.J;rw[eF,yr.J]at ho;have UC:=ak ho;clear ho;go_wp2;go_ret;exact⟨_,rfl,UC.J,LI.J⟩
theorem alk(b:bU)(c:Γ)(q:Nat)(w:ω)(i:Ξ w ⟨q,0,ν⟩=σ (θ c))(g:q<w.heap.size):Calls prog 269 #[χ #[θ b.1,ι κ b.2],π (σ ⟨q,0,ν⟩)] w λj w'=>j=τ (.bool (ct b.1 c))/\δ w.heap.size w w':=by have d:δ w.heap.size w (w.alloc (ξ #[θ b.1,ι κ b.2] 241)):=(aj _ _).alloc (ae _) _;have l:=(d.cell (p:=⟨q,0,ν⟩) g).trans i;have e:=d;have m:(b.1.toList==c.toList)=ct b.1 c:=iZ b.1 c;go_in;go_wp2;(try(go_quiet(fail);go_wp2_with fail));go_ret;exact⟨rfl,by repeat(first|exact e|refine aP ?_|refine below_drewN ?_ _)⟩
theorem agQ(c:Δ bU)(v:υ)(g:Γ)(q:Nat)(w:ω)(u:eK w v c)(T:Λ c<=100000)(K:Ξ w ⟨q,0,ν⟩=σ (θ g))(p:q<w.heap.size):Calls prog 268 #[v,.func (.func 269) #[] #[π (σ ⟨q,0,ν⟩)]] w λy w'=>y=τ (ι κ (mI c g))/\δ w.heap.size w w':=by
 have C:=u;have F:=ak K;have⟨U,P,L⟩:=u.slice;subst L;go_in;go_wp2;go_loopw[8] (λb wr=>∃d:Nat,d<=Λ c/\b=ι κ d/\Hid (δ w.heap.size w wr)/\Hid (∀(e:Nat) (b:bU),e<d->c[e]?=σ b->ct b.1 g=false)) (λb _=>Λ c - (intOf b).toNat);case atStart=>exact⟨0,aB _,rfl,ak (aj _ _),ak (λe b l _=>by omega)⟩
 case round=>obtain⟨d,R,rfl,i,o⟩:=hrel;by_cases s:d<Λ c;{have I:=aX.2 s;obtain⟨b,x⟩:∃b,c[d]?=σ b:=⟨c[d],af s⟩;have⟨Q,go,O,j,M,N⟩:=(C.aU i.J (ae _)).get x;cases j;have E:=alk b g q wr ((i.J.cell (p:=⟨q,0,ν⟩) p).trans F.J) (aw p i.J.size);have r:=ak x;go_wp21;refine E.mono ?_;rintro y V ⟨rfl,H⟩;have t:=i.J.trans (H.mono i.J.size);cases j:ct b.1 g with|true=>(have A:=ak (show mI c g=d from by unfold mI;rw[VP r.J j o.J]);go_wp2;go_ret;exact⟨by rw[A.J];rfl,t⟩)|false=>have D:=ak j;go_wp2;refine⟨⟨d+1,by omega,by go_num,t,ak (λe G l m=>?_)⟩,by simp[intOf];omega⟩;by_cases z:e=d;{subst z;have:=r.J;rw[this]at m;cases m;exact D.J};exact o.J e G (by omega) m};have I:¬(d:Int)<Λ c:=(by omega);go_wp2;go_ret;refine⟨?_,i.J⟩;have:wP c g=ν:=VO (λe b l=>o.J e b (by have:=(ah.mp l).1;omega) l);unfold mI;rw[this];rfl
theorem Hf(c:Δ bU)(v:υ)(b:Γ)(w:ω)(e:eK w v c)(o:Λ c<=100000):Calls prog 267 #[v,θ b] w λg w'=>g=τ (ι κ (mI c b))/\δ w.heap.size w w':=by have d:δ w.heap.size w (w.alloc (ξ #[θ b] 9)):=(aj _ _).alloc (ae _) _;have j:=agQ c v b w.heap.size _ (e.aU d (ae _)) o (by have m:=az w (ξ #[θ b] 9);simp only[World.cell?,m];rfl) (by simp);have i:=d;have⟨t,s,p⟩:=e.slice;subst p;go_in;go_wp21;refine j.mono ?_;rintro g u ⟨rfl,l⟩;have r:=i.trans (l.mono (by simp));go_wp2;go_ret;exact⟨rfl,r⟩
