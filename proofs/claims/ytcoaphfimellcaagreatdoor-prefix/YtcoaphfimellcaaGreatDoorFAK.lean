import Derived.Test.YtcoaphfimellcaaGreatDoorFAB
import Derived.BigQuiet
set_option maxHeartbeats 0
set_option maxRecDepth 100000
namespace Go.Proofs.YtcoaphfimellcaaGreatDoor
open Go.RowKit
open _root_.Go.Proofs.Tryz
open Option renaming some→σ,none→ν
open Go.Value renaming string→θ,slice→ψ,agg→χ
variable{w m:Nat}{p:World}
namespace S
def nD(w:World)(b off:Nat)(cs:List Cl):Prop:=
 ∀i c,cs[i]?=σ c->w.cell? ⟨b,off+i*3,ν⟩=σ (.bool c.null)/\w.cell? ⟨b,off+i*3+1,ν⟩=σ (.int .i64 c.n)/\w.cell? ⟨b,off+i*3+2,ν⟩=σ (θ c.s)
theorem nD.kept{c:Nat->Prop}{e w':World}{d:List Cl}(g:nD e w m d)(b:aY c e w')(a:c w):nD w' w m d:=by intro n f l;obtain⟨i,j,k⟩:=g n f l;exact⟨(b.cell (p:=⟨w,_,ν⟩) a).trans i,(b.cell (p:=⟨w,_,ν⟩) a).trans j,(b.cell (p:=⟨w,_,ν⟩) a).trans k⟩
theorem nD.drop{c:List Cl}(f:nD p w m c)(a:Nat):nD p w (m+a*3) (c.drop a):=by intro b e d;rw[jg]at d;have:=f (a+b) e d;rw[show m+a*3+b*3=m+(a+b)*3 by omega];exact this
def zN(c:Cl):Prop:=cR c.n/\c.s.size<=12
def iU(k:Int)(cs:List Cl):List Bool:=cs.flatMap (ly k)
theorem sr(a:Int)(c:List Cl)(b:Cl):iU a (c++[b])=iU a c++ly a b:=by simp[iU,List.flatMap_append]
theorem sN(b:Int)(c:List Cl)(d:∀a∈c,zN a):(iU b c).length<=168*c.length:=by induction c with|nil=>simp[iU]|cons a e j=>have g:iU b (a::e)=ly b a++iU b e:=rfl;have k:=IV b a (d a (by simp)).1;have l:=(d a (by simp)).2;have m:=j (λf i=>d f (by simp[i]));rw[g,aw,aX];omega
theorem gY{c:Type}{a:List c}{b:c}(d:a[w]?=σ b):a.take (w+1)=a.take w++[b]:=by rw[dx,d];rfl
theorem IW(d:Nat->Prop)(g:Nat)(n:List Bool)(f:Int)(a:List Cl)(u:Option Addr)(l D L:Nat)(e:World)(m:Writer d e g n)
 (z:0<a.length->u=σ ⟨l,D,ν⟩) (A:nD e l D a) (y:0<a.length->d l) (C:∀c∈a,zN c) (Q:a.length<=64) (O:n.length<=1000) :
 Calls prog 345 #[χ #[],.pointer (σ ⟨g,0,ν⟩),.int .i64 f,ψ u a.length L] e λv E=>v=.returned (.tuple #[])/\Writer d E g (n++iU f a)/\aY d e E:=by
 have H:=A;have t:=au C;clear A C;go_in;go_wp2;go_loopw[12] (λc wr=>∃b:Nat,b<=a.length/\c=.int .i64 b/\Writer d wr g (n++iU f (a.take b))/\aY d e wr) (λc _=>a.length - (intOf c).toNat);case atStart=>exact⟨0,aI _,rfl,by simpa[iU]using m.alloc _,(aY.refl d e).alloc m.old _⟩
 case round=>obtain⟨b,P,rfl,k,i⟩:=hrel;by_cases K:b<a.length;{have R:(b:Int)<(a.length:Int):=(by omega);obtain⟨c,r⟩:∃c,a[b]?=σ c:=⟨a[b],af K⟩;obtain rfl:=z (by omega);obtain⟨I,c1,c2⟩:=H.kept i (y (by omega)) b c r;have j:=k;have o:=i;have s:=au r;clear m k i r z y;have T:l<wr.heap.size:=bA _ _ I;go_wp2_with fail;have p:=t.J c (aA s.J);have B:=sN f (a.take b) (λM N=>t.J M (eH N));rw[bV]at B;refine(zM d g _ f c _ (j.alloc _) p.1 (by have:=p.2;omega) (by rw[aw];omega)).mono ?_;rintro v U ⟨rfl,w,x⟩;have F:=w;have G:=(o.alloc j.old _).trans x;clear w x p B;go_wp2;go_roundw;(case rel=>refine⟨b+1,by omega,by go_num,?_,G⟩;rw[gY s.J,sr,<- bN];exact F);case measure=>simp[intOf];omega};obtain rfl:b=a.length:=(by omega);have j:=k;have o:=i;clear m k i;go_wp2;go_end0;refine⟨rfl,?_,o⟩;have:=j;rwa[aL (ae _)]at this
end S
namespace S
def Cl.beq(a b:Cl):Bool:=a.null==b.null&&a.n==b.n&&a.s.toList==b.s.toList
theorem Mg(a b:Cl)(c:World):(binOp .neq 229 (χ #[.bool a.null,.int .i64 a.n,θ a.s]) (χ #[.bool b.null,.int .i64 b.n,θ b.s])).run prog c=.ok (.bool (!a.beq b)) c:=by go_simp;by_cases d:a.null=b.null<;>by_cases e:a.n=b.n<;>by_cases f:a.s.toList=b.s.toList<;>simp[Cl.beq,d,e,f]
theorem Cl.beq_iff(a b:Cl):a.beq b=true↔a=b:=by constructor;{intro c;simp only[Cl.beq,Bool.and_eq_true,beq_iff_eq]at c;have d:a.s=b.s:=(by have:=c.2;rw[iD,iD]at this;cases ha:a.s;cases hb:b.s;rw[ha,hb]at this;congr 1;exact o7.1 this);exact Cl.ext' c.1.1 c.1.2 d};rintro rfl;simp[Cl.beq]
theorem B0{k:Type}{p:k->Bool}:∀(c:List k) (a:Nat),a<=c.length->(∀e b,e<a->c[e]?=σ b->p b=true)->(∀b,c[a]?=σ b->p b=false)->(c.takeWhile p).length=a:=by intro c;induction c with|nil=>(intro a d _ _;simp at d;simp[d])|cons b n l=>intro a d i j;cases a with|zero=>(rw[gC,j b (by simp)];rfl)|succ a=>rw[gC,i 0 b (by omega) (by simp),aF rfl,aX];rw[l a (by simpa using d) (λe f m g=>i (e+1) f (by omega) (by simpa using g)) (λf g=>j f (by simpa using g))]
def fr(cs:List Cl):Nat:=match cs with|[]=>0|c::r=>((c::r).takeWhile λd=>d.beq c).length
theorem NW(c:List Cl)(D:Option Addr)(m P R:Nat)(j:World)(L:0<c.length->D=σ ⟨m,P,ν⟩)(M:nD j m P c)(aa:c.length<=1000) :
 Calls prog 329 #[ψ D c.length R] j λg W=>g=.returned (.int .i64 (fr c:Int))/\Below j.heap.size j W:=by
 have A:=M;clear M;go_in;go_wp2;go_loopw[7] (λa wr=>∃d:Nat,d<=c.length/\a=.int .i64 d/\(∀e a b,e<d->c[e]?=σ a->c[0]?=σ b->a.beq b=true)/\Below j.heap.size j wr) (λa _=>c.length - (intOf a).toNat);case atStart=>exact⟨0,aI _,rfl,λe _ _ h=>by omega,ah _ _⟩
 case round=>
  obtain⟨d,hi,rfl,O,l⟩:=hrel;have t:=au O;clear O;by_cases F:d<c.length
  .have jY:(d:Int)<(c.length:Int):=(by omega);have X:(0:Int)<(c.length:Int):=(by omega);have Z:0<c.length:=(by omega);obtain⟨a,y⟩:∃a,c[d]?=σ a:=⟨c[d],af F⟩;obtain⟨b,w⟩:∃b,c[0]?=σ b:=⟨c[0],af (by omega)⟩;obtain rfl:=L (by omega);obtain⟨E,c1,c2⟩:=A d a y;obtain⟨H,I,K⟩:=A 0 b w;rw[qZ,iZ]at H I K;have N:m<j.heap.size:=bA _ _ E;have Y:m<wr.heap.size:=ai N l.size;rw[<- l.cell (p:=⟨m,_,ν⟩) N]at E c1 c2 H I K;have k:=l;have C:=au y;have B:=au w;clear y w L l;by_cases n:a.beq b=true
   .have V:∀i,(binOp .neq 229 (χ #[.bool a.null,.int .i64 a.n,θ a.s]) (χ #[.bool b.null,.int .i64 b.n,θ b.s])).run prog i=.ok (.bool false) i:=λi=>by rw[Mg,n];rfl
    have u:=au n;clear n;go_wp2_with fail;go_region;go_wp2;go_roundw;(case rel=>refine⟨d+1,by omega,by go_num,?_,(k.alloc k.size _).drew⟩;intro e f G p z o;by_cases Q:e=d;{subst Q;have T:f=a:=bk (z.symm.trans C.J);have U:G=b:=bk (o.symm.trans B.J);rw[T,U];exact u.J};exact t.J e f G (by omega) z o);case measure=>simp[intOf];omega
   have s:a.beq b=false:=(by simpa using n);have V:∀i,(binOp .neq 229 (χ #[.bool a.null,.int .i64 a.n,θ a.s]) (χ #[.bool b.null,.int .i64 b.n,θ b.s])).run prog i=.ok (.bool true) i:=λi=>by rw[Mg,s];rfl
   have u:=au s;clear n s;go_wp2_with fail;go_region;go_wp2;go_ret;refine⟨a7 Ending.returned (a7 (Value.int IntKind.i64) ?_),(k.alloc k.size _).drew⟩;cases hcs:c with
   |nil=>subst hcs;simp at F
   |cons f r=>
    subst hcs;have o:f=b:=(by simpa using B.J)
    subst o;have:=B0 (p:=λg=>g.beq f) (f::r) d (by omega) (λe g p x=>t.J e g f p x (by simp)) (λg x=>by
     have:g=a:=bk (x.symm.trans C.J);rw[this];exact u.J)
    rw[fr,this]
  obtain rfl:d=c.length:=(by omega);have k:=l;clear l;go_wp2;go_ret;refine⟨a7 Ending.returned (a7 (Value.int IntKind.i64) ?_),k⟩;cases hcs:c with|nil=>simp[fr]|cons a r=>subst hcs;have:=B0 (p:=λb=>b.beq a) (a::r) (a::r).length (ae _) (λe b p v=>t.J e b a p v (by simp)) (λb v=>by simp at v);rw[fr,this]
theorem IX{cs:List Cl}(b:0<cs.length):0<fr cs:=by cases cs with|nil=>simp at b|cons a c=>have:a.beq a=true:=(Cl.beq_iff a a).2 rfl;rw[fr,gC,this,aF rfl];simp
theorem BD{c:Type}(b:c->Bool)(a:List c):(a.takeWhile b).length<=a.length:=by have:=a7 List.length (rE (p:=b) (l:=a));rw[aw]at this;omega
theorem Xc(a:List Cl):fr a<=a.length:=by cases a with|nil=>simp[fr]|cons b c=>exact BD _ _
def uL(k:Int):Nat->List Cl->List Bool
 |0,_=>[]
 |_+1,[]=>[]
 |f+1,c::r=>bitsOf (fr (c::r) - 1) 8++ly k c++uL k f ((c::r).drop (fr (c::r)))
def oS(k:Int)(cs:List Cl):List Bool:=uL k cs.length cs
theorem Le(d:Int):∀(a:Nat) (e:List Cl),e.length<=a->uL d a e=oS d e:=by intro a;induction a using Nat.strongRecOn with|_ a g=>intro e f;cases e with|nil=>cases a<;>rfl|cons c b=>cases a with|zero=>simp at f|succ a=>have k:=IX (cs:=c::b) (by simp);have j:=Xc (c::b);show bitsOf (fr (c::b) - 1) 8++ly d c++uL d a ((c::b).drop (fr (c::b)))=bitsOf (fr (c::b) - 1) 8++ly d c++uL d b.length ((c::b).drop (fr (c::b)));rw[g a (by omega) _ (by rw[bW];simp at f ⊢;omega)];by_cases i:b.length<a+1;{rw[g b.length i _ (by rw[bW];simp;omega)]};simp at f;omega
theorem xZ(c:Int)(a:Cl)(b:List Cl):oS c (a::b)=bitsOf (fr (a::b) - 1) 8++ly c a++oS c ((a::b).drop (fr (a::b))):=by have d:=IX (cs:=a::b) (by simp);show bitsOf (fr (a::b) - 1) 8++ly c a++uL c b.length ((a::b).drop (fr (a::b)))=_;rw[Le c b.length _ (by rw[bW];simp;omega)]
end S
namespace S
theorem IY(f:Int)(b:List Cl)(c:∀a∈b,zN a):(oS f b).length<=176*b.length:=by
 suffices H:∀d,∀b:List Cl,b.length=d->(∀a∈b,zN a)->(oS f b).length<=176*b.length from H _ b rfl c
 intro d;induction d using Nat.strongRecOn with|_ d l=>intro b k c;cases b with|nil=>simp[oS,uL]|cons a e=>have p:=IX (cs:=a::e) (by simp);have o:=Xc (a::e);have m:=IV f a (c a (by simp)).1;have n:=(c a (by simp)).2;have i:=l ((a::e).drop (fr (a::e))).length (by rw[bW,<- k];omega) _ rfl (λg j=>c g (jo j));rw[xZ];simp only[List.length_append,bP];rw[bW]at i;omega
theorem Lf(e:Nat->Prop)(k:Nat)(u:List Bool)(g:Int)(a:List Cl)(B:Option Addr)(i n D:Nat)(l:World)(H:Writer e l k u)
 (R:0<a.length->B=σ ⟨i,n,ν⟩) (U:nD l i n a) (Q:0<a.length->e i) (I:∀d∈a,zN d) (an:a.length<=64) (NS:a.length<=D) (hb:u.length<=1000) :
 Calls prog 327 #[χ #[],.pointer (σ ⟨k,0,ν⟩),.int .i64 g,ψ B a.length D] l λs w'=>s=.returned (.tuple #[])/\Writer e w' k (u++oS g a)/\aY e l w':=by
 have HO:=au I;have am:=IY g a I;clear I;go_in;go_wp2;go_loopw[3] (λE wr=>∃(b c m:Nat) (C:Option Addr) (o:List Bool),Hid (b+c=a.length)/\E=ψ C c m/\c<=m/\(0<c->C=σ ⟨i,n+b*3,ν⟩)/\Hid (o++oS g (a.drop b)=oS g a)/\Hid (Writer e wr k (u++o))/\Hid (aY e l wr))
  (λE _=>lenOf E)
 case atStart=>exact⟨0,a.length,D,B,[],au (by omega),rfl,NS,by simpa using R,by simp[Hid],by simpa[Hid]using H.alloc _,(aY.refl e l).alloc H.old _⟩
 case round=>obtain⟨b,c,m,C,o,M,rfl,ao,T,A,z,y⟩:=hrel;have ac:b+c<=a.length:=(by have:=M.J;omega);have ad:a.length<=b+c:=(by have:=M.J;omega);have ap:o.length<=11264:=(by have F:=a7 List.length A.J;rw[aw]at F;omega);clear H;by_cases hm:0<c;{have BR:(0:Int)<(c:Int):=(by omega);obtain rfl:=T hm;have V:=Q (by omega);have aa:=(U.kept y.J V).drop b;have r:(a.drop b).length=c:=(by rw[bW];omega);obtain⟨d,v,L⟩:∃d v,a.drop b=d::v:=(by cases h:a.drop b with|nil=>rw[h]at r;simp at r;omega|cons d v=>exact⟨d,v,rfl⟩);have ab:=IX (cs:=a.drop b) (by omega);have K:=Xc (a.drop b);have w:=NW (a.drop b) (σ ⟨i,n+b*3,ν⟩) i (n+b*3) m wr (λ_=>rfl) aa (by omega);rw[r]at w K;have⟨f,G⟩:=nm (fr (a.drop b));rw[<- G]at w ab K;have HF:=au G;have p:=au L;clear T r G L R Q;go_wp2_with fail;refine w.mono ?_;rintro s w1 ⟨rfl,F⟩;clear w;go_wp2_with fail;have x:=mX F;have Z:=z.J.wQ x;have Y:=y.J.trans (aY.uz x z.J.old);refine(nG e k _ _ _ _ Z (by omega) (by omega) (by omega) (by rw[show Int.toNat 8=8 from rfl,aw];omega)).mono ?_;rintro s w2 ⟨rfl,h2,O⟩;have X:=Y.trans O;have⟨N,c1,c2⟩:=(U.kept X V).drop b 0 d (by rw[p.J];rfl);rw[qZ,iZ]at N c1 c2;have W:=HO.J d (jo (by rw[p.J];exact dw));clear x Z Y O;go_wp2_with fail;refine(zM e k _ g d _ h2 W.1 (by have:=W.2;omega) (by simp only[List.length_append,bP];rw[show Int.toNat 8=8 from rfl];omega)).mono ?_;rintro s w3 ⟨rfl,t,P⟩;have H4:=t;have FT:=X.trans P;clear t P N c1 c2;have al:(f:Int)<=(c:Int):=(by omega);go_wp2;go_roundw;(case rel=>refine⟨b+f,c - f,m - f,_,o++bitsOf ((f:Int) - 1).toNat 8++ly g d,au (by omega),rfl,by omega,?_,?_,?_,FT⟩;{intro Y2;rw[aE (by omega)];congr 2;omega};{have j:=A.J;rw[p.J,xZ,<- p.J,<- HF.J,vl]at j;show _=_;rw[<- j,show((f:Int) - 1).toNat=f - 1 by omega];simp only[List.append_assoc]};have t:=H4;show Writer _ _ _ _;simpa only[List.append_assoc,show Int.toNat 8=8 from rfl]using t);case measure=>show c - f<c;omega};obtain rfl:c=0:=(by omega);go_wp2;go_end0;refine⟨rfl,?_,y.J⟩;have j:=A.J;rw[lz (by omega)]at j;have:oS g []=[]:=rfl;rw[this,bX]at j;rw[<- j];exact z.J
end S
