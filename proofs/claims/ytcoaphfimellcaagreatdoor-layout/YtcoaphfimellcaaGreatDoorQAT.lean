import Derived.Test.YtcoaphfimellcaaGreatDoorQAS
import Derived.BigQuiet
set_option maxHeartbeats 0
set_option maxRecDepth 100000
namespace Go.Proofs.YtcoaphfimellcaaGreatDoor
open Go.RowKit
open _root_.Go.Proofs.Tryz
open Option renaming some→σ,none→ν
open Go.IntKind renaming i64→κ
open Go.Ending renaming returned→τ
open Go renaming World→ω
open Go.RowKit renaming Below→δ
open Go.Value renaming int→ι,string→θ,slice→ψ,pointer→π,agg→χ
variable{w m:Nat}{p:ω}
namespace S
def mT(w:ω)(b off:Nat)(cs:List Cl):Prop:=
 ∀i c,cs[i]?=σ c->w.cell? ⟨b,off+i*3,ν⟩=σ (.bool c.null)/\w.cell? ⟨b,off+i*3+1,ν⟩=σ (ι κ c.n)/\w.cell? ⟨b,off+i*3+2,ν⟩=σ (θ c.s)
theorem mT.kept{c:Nat->Prop}{e w':ω}{d:List Cl}(g:mT e w m d)(b:aX c e w')(a:c w):mT w' w m d:=by intro n f l;obtain⟨i,j,k⟩:=g n f l;exact⟨(b.cell (p:=⟨w,_,ν⟩) a).trans i,(b.cell (p:=⟨w,_,ν⟩) a).trans j,(b.cell (p:=⟨w,_,ν⟩) a).trans k⟩
theorem mT.drop{c:List Cl}(f:mT p w m c)(a:Nat):mT p w (m+a*3) (c.drop a):=by intro b e d;rw[il]at d;have:=f (a+b) e d;rw[show m+a*3+b*3=m+(a+b)*3 by omega];exact this
def yM(c:Cl):Prop:=cK c.n/\c.s.size<=12
def gZ(k:Int)(cs:List Cl):List Bool:=cs.flatMap (kN k)
theorem rz(a:Int)(c:List Cl)(b:Cl):gZ a (c++[b])=gZ a c++kN a b:=by simp[gZ,List.flatMap_append]
theorem rM(b:Int)(c:List Cl)(d:∀a∈c,yM a):(gZ b c).length<=168*c.length:=by
 induction c with
 |nil=>simp[gZ]
 |cons a e j=>
   have g:gZ b (a::e)=kN b a++gZ b e:=rfl;have k:=G3 b a (d a (by simp)).1;have l:=(d a (by simp)).2;have m:=j (λf i=>d f (by simp[i]));rw[g,az,a7];omega
theorem gj{c:Type}{a:List c}{b:c}(d:a[w]?=σ b):a.take (w+1)=a.take w++[b]:=by rw[de,d];rfl
theorem G4(d:Nat->Prop)(g:Nat)(n:List Bool)(f:Int)(a:List Cl)(u:Option Addr)(l D L:Nat)(e:ω)(m:Writer d e g n)
 (z:0<a.length->u=σ ⟨l,D,ν⟩) (A:mT e l D a) (y:0<a.length->d l) (C:∀c∈a,yM c) (T:a.length<=64) (Q:n.length<=1000) :
 Calls prog 345 #[χ #[],π (σ ⟨g,0,ν⟩),ι κ f,ψ u a.length L] e λv E=>v=τ (.tuple #[])/\Writer d E g (n++gZ f a)/\aX d e E:=by
 have H:=A;have t:=ak C;clear A C;go_in;go_wp2;go_loopw[12] (λc wr=>∃b:Nat,b<=a.length/\c=ι κ b/\Writer d wr g (n++gZ f (a.take b))/\aX d e wr) (λc _=>a.length - (intOf c).toNat);case atStart=>exact⟨0,aK _,rfl,by simpa[gZ]using m.alloc _,(aX.refl d e).alloc m.old _⟩
 case round=>obtain⟨b,R,rfl,k,i⟩:=hrel;by_cases K:b<a.length;{have U:(b:Int)<(a.length:Int):=(by omega);obtain⟨c,r⟩:∃c,a[b]?=σ c:=⟨a[b],af K⟩;obtain rfl:=z (by omega);obtain⟨I,O,P⟩:=H.kept i (y (by omega)) b c r;have j:=k;have o:=i;have s:=ak r;clear m k i r z y;have V:l<wr.heap.size:=bz _ _ I;go_wp2_with fail;have p:=t.J c (aA s.J);have B:=rM f (a.take b) (λM N=>t.J M (eG N));rw[bV]at B;refine(yL d g _ f c _ (j.alloc _) p.1 (by have:=p.2;omega) (by rw[az];omega)).mono ?_;rintro v W ⟨rfl,w,x⟩;have F:=w;have G:=(o.alloc j.old _).trans x;clear w x p B;go_wp2;go_roundw;(case rel=>refine⟨b+1,by omega,by go_num,?_,G⟩;rw[gj s.J,rz,<- cj];exact F);case measure=>simp[intOf];omega};obtain rfl:b=a.length:=(by omega);have j:=k;have o:=i;clear m k i;go_wp2;go_end0;refine⟨rfl,?_,o⟩;have:=j;rwa[aI (ae _)]at this
end S
namespace S
def Cl.beq(a b:Cl):Bool:=a.null==b.null&&a.n==b.n&&a.s.toList==b.s.toList
theorem KF(a b:Cl)(c:ω):(binOp .neq 229 (χ #[.bool a.null,ι κ a.n,θ a.s]) (χ #[.bool b.null,ι κ b.n,θ b.s])).run prog c=.ok (.bool (!a.beq b)) c:=by go_simp;by_cases d:a.null=b.null<;>by_cases e:a.n=b.n<;>by_cases f:a.s.toList=b.s.toList<;>simp[Cl.beq,d,e,f]
theorem Cl.beq_iff(a b:Cl):a.beq b=true↔a=b:=by constructor;{intro c;simp only[Cl.beq,Bool.and_eq_true,beq_iff_eq]at c;have d:a.s=b.s:=(by have:=c.2;rw[gL,gL]at this;cases ha:a.s;cases hb:b.s;rw[ha,hb]at this;congr 1;exact oz.1 this);exact Cl.ext' c.1.1 c.1.2 d};rintro rfl;simp[Cl.beq]
theorem A1{k:Type}{p:k->Bool}:∀(c:List k) (a:Nat),a<=c.length->(∀e b,e<a->c[e]?=σ b->p b=true)->(∀b,c[a]?=σ b->p b=false)->(c.takeWhile p).length=a:=by
 intro c
 induction c with
 |nil=>intro a d _ _;simp at d;simp[d]
 |cons b n l=>
   intro a d i j
   cases a with
   |zero=>rw[fF,j b (by simp)];rfl
   |succ a=>
     rw[fF,i 0 b (by omega) (by simp),aF rfl,a7];rw[l a (by simpa using d) (λe f m g=>i (e+1) f (by omega) (by simpa using g)) (λf g=>j f (by simpa using g))]
def fr(cs:List Cl):Nat:=match cs with|[]=>0|c::r=>((c::r).takeWhile λd=>d.beq c).length
theorem LU(c:List Cl)(D:Option Addr)(m P U:Nat)(j:ω)(L:0<c.length->D=σ ⟨m,P,ν⟩)(M:mT j m P c)(ac:c.length<=1000) :
 Calls prog 329 #[ψ D c.length U] j λg Y=>g=τ (ι κ (fr c:Int))/\δ j.heap.size j Y:=by
 have A:=M;clear M;go_in;go_wp2;go_loopw[7] (λa wr=>∃d:Nat,d<=c.length/\a=ι κ d/\(∀e a b,e<d->c[e]?=σ a->c[0]?=σ b->a.beq b=true)/\δ j.heap.size j wr) (λa _=>c.length - (intOf a).toNat);case atStart=>exact⟨0,aK _,rfl,λe _ _ h=>by omega,ah _ _⟩
 case round=>
  obtain⟨d,hi,rfl,O,l⟩:=hrel;have t:=ak O;clear O;by_cases F:d<c.length
  .have ju:(d:Int)<(c.length:Int):=(by omega);have ab:(0:Int)<(c.length:Int):=(by omega);have aa:0<c.length:=(by omega);obtain⟨a,y⟩:∃a,c[d]?=σ a:=⟨c[d],af F⟩;obtain⟨b,v⟩:∃b,c[0]?=σ b:=⟨c[0],af (by omega)⟩;obtain rfl:=L (by omega);obtain⟨E,R,T⟩:=A d a y;obtain⟨H,I,K⟩:=A 0 b v;rw[qx,lQ]at H I K;have N:m<j.heap.size:=bz _ _ E;have Z:m<wr.heap.size:=ai N l.size;rw[<- l.cell (p:=⟨m,_,ν⟩) N]at E R T H I K;have k:=l;have C:=ak y;have B:=ak v;clear y v L l;by_cases n:a.beq b=true
   .have X:∀i,(binOp .neq 229 (χ #[.bool a.null,ι κ a.n,θ a.s]) (χ #[.bool b.null,ι κ b.n,θ b.s])).run prog i=.ok (.bool false) i:=λi=>by rw[KF,n];rfl
    have u:=ak n;clear n;go_wp2_with fail;go_region;go_wp2;go_roundw;(case rel=>refine⟨d+1,by omega,by go_num,?_,(k.alloc k.size _).drew⟩;intro e f G p z o;by_cases Q:e=d;{subst Q;have V:f=a:=bf (z.symm.trans C.J);have W:G=b:=bf (o.symm.trans B.J);rw[V,W];exact u.J};exact t.J e f G (by omega) z o);case measure=>simp[intOf];omega
   have s:a.beq b=false:=by simpa using n
   have X:∀i,(binOp .neq 229 (χ #[.bool a.null,ι κ a.n,θ a.s]) (χ #[.bool b.null,ι κ b.n,θ b.s])).run prog i=.ok (.bool true) i:=λi=>by rw[KF,s];rfl
   have u:=ak s;clear n s;go_wp2_with fail;go_region;go_wp2;go_ret;refine⟨bn Ending.returned (bn (Value.int IntKind.i64) ?_),(k.alloc k.size _).drew⟩
   cases hcs:c with
   |nil=>subst hcs;simp at F
   |cons f r=>
     subst hcs;have o:f=b:=by simpa using B.J
     subst o;have:=A1 (p:=λg=>g.beq f) (f::r) d (by omega) (λe g p x=>t.J e g f p x (by simp)) (λg x=>by
      have:g=a:=bf (x.symm.trans C.J);rw[this];exact u.J)
     rw[fr,this]
  obtain rfl:d=c.length:=by omega
  have k:=l;clear l;go_wp2;go_ret;refine⟨bn Ending.returned (bn (Value.int IntKind.i64) ?_),k⟩
  cases hcs:c with
  |nil=>simp[fr]
  |cons a r=>
    subst hcs;have:=A1 (p:=λb=>b.beq a) (a::r) (a::r).length (ae _) (λe b p w=>t.J e b a p w (by simp)) (λb w=>by simp at w);rw[fr,this]
theorem G5{cs:List Cl}(b:0<cs.length):0<fr cs:=by
 cases cs with
 |nil=>simp at b
 |cons a c=>
   have:a.beq a=true:=(Cl.beq_iff a a).2 rfl;rw[fr,fF,this,aF rfl];simp
theorem Aw{c:Type}(b:c->Bool)(a:List c):(a.takeWhile b).length<=a.length:=by have:=bn List.length (qI (p:=b) (l:=a));rw[az]at this;omega
theorem UD(a:List Cl):fr a<=a.length:=by
 cases a with
 |nil=>simp[fr]
 |cons b c=>exact Aw _ _
def tH(k:Int):Nat->List Cl->List Bool
 |0,_=>[]
 |_+1,[]=>[]
 |f+1,c::r=>bitsOf (fr (c::r) - 1) 8++kN k c++tH k f ((c::r).drop (fr (c::r)))
def oi(k:Int)(cs:List Cl):List Bool:=tH k cs.length cs
theorem JF(d:Int):∀(a:Nat) (e:List Cl),e.length<=a->tH d a e=oi d e:=by
 intro a
 induction a using Nat.strongRecOn with
 |_ a g=>
   intro e f
   cases e with
   |nil=>cases a<;>rfl
   |cons c b=>
     cases a with
     |zero=>simp at f
     |succ a=>
       have k:=G5 (cs:=c::b) (by simp);have j:=UD (c::b);show bitsOf (fr (c::b) - 1) 8++kN d c++tH d a ((c::b).drop (fr (c::b)))=bitsOf (fr (c::b) - 1) 8++kN d c++tH d b.length ((c::b).drop (fr (c::b)));rw[g a (by omega) _ (by rw[bW];simp at f ⊢;omega)];by_cases i:b.length<a+1
       . rw[g b.length i _ (by rw[bW];simp;omega)]
       . simp at f;omega
theorem xb(c:Int)(a:Cl)(b:List Cl):oi c (a::b)=bitsOf (fr (a::b) - 1) 8++kN c a++oi c ((a::b).drop (fr (a::b))):=by have d:=G5 (cs:=a::b) (by simp);show bitsOf (fr (a::b) - 1) 8++kN c a++tH c b.length ((a::b).drop (fr (a::b)))=_;rw[JF c b.length _ (by rw[bW];simp;omega)]
end S
namespace S
theorem G6(f:Int)(b:List Cl)(c:∀a∈b,yM a):(oi f b).length<=176*b.length:=by
 suffices H:∀d,∀b:List Cl,b.length=d->(∀a∈b,yM a)->(oi f b).length<=176*b.length from H _ b rfl c
 intro d
 induction d using Nat.strongRecOn with
 |_ d l=>
   intro b k c
   cases b with
   |nil=>simp[oi,tH]
   |cons a e=>
     have p:=G5 (cs:=a::e) (by simp);have o:=UD (a::e);have m:=G3 f a (c a (by simp)).1;have n:=(c a (by simp)).2;have i:=l ((a::e).drop (fr (a::e))).length (by rw[bW,<- k];omega) _ rfl (λg j=>c g (iy j));rw[xb];simp only[List.length_append,bM];rw[bW]at i;omega
theorem JG(e:Nat->Prop)(k:Nat)(u:List Bool)(g:Int)(a:List Cl)(B:Option Addr)(i n D:Nat)(l:ω)(H:Writer e l k u)
 (W:0<a.length->B=σ ⟨i,n,ν⟩) (Y:mT l i n a) (V:0<a.length->e i) (I:∀d∈a,yM d) (am:a.length<=64) (LP:a.length<=D) (hb:u.length<=1000) :
 Calls prog 327 #[χ #[],π (σ ⟨k,0,ν⟩),ι κ g,ψ B a.length D] l λs w'=>s=τ (.tuple #[])/\Writer e w' k (u++oi g a)/\aX e l w':=by
 have HO:=ak I;have al:=G6 g a I;clear I;go_in;go_wp2;go_loopw[3] (λE wr=>∃(b c m:Nat) (C:Option Addr) (o:List Bool),Hid (b+c=a.length)/\E=ψ C c m/\c<=m/\(0<c->C=σ ⟨i,n+b*3,ν⟩)/\Hid (o++oi g (a.drop b)=oi g a)/\Hid (Writer e wr k (u++o))/\Hid (aX e l wr))
  (λE _=>lenOf E)
 case atStart=>exact⟨0,a.length,D,B,[],ak (by omega),rfl,LP,by simpa using W,by simp[Hid],by simpa[Hid]using H.alloc _,(aX.refl e l).alloc H.old _⟩
 case round=>
  obtain⟨b,c,m,C,o,M,rfl,an,X,A,z,y⟩:=hrel;have ad:b+c<=a.length:=by have:=M.J;omega
  have ac:a.length<=b+c:=by have:=M.J;omega
  have ao:o.length<=11264:=(by have F:=bn List.length A.J;rw[az]at F;omega);clear H;by_cases hm:0<c
  .have Ar:(0:Int)<(c:Int):=(by omega);obtain rfl:=X hm;have N:=V (by omega);have aa:=(Y.kept y.J N).drop b;have p:(a.drop b).length=c:=(by rw[bW];omega);obtain⟨d,v,L⟩:∃d v,a.drop b=d::v:=by
    cases h:a.drop b with
    |nil=>rw[h]at p;simp at p;omega
    |cons d v=>exact⟨d,v,rfl⟩
   have ab:=G5 (cs:=a.drop b) (by omega);have K:=UD (a.drop b);have w:=LU (a.drop b) (σ ⟨i,n+b*3,ν⟩) i (n+b*3) m wr (λ_=>rfl) aa (by omega);rw[p]at w K;obtain⟨f,G⟩:=nm (fr (a.drop b));rw[<- G]at w ab K;have HF:=ak G;have r:=ak L;clear X p G L W V;go_wp2_with fail;refine w.mono ?_;rintro s w1 ⟨rfl,F⟩;clear w;go_wp2_with fail;have x:=mD F;have si:=z.J.vJ x;have Z:=y.J.trans (aX.tq x z.J.old);refine(mX e k _ _ _ _ si (by omega) (by omega) (by omega) (by rw[show Int.toNat 8=8 from rfl,az];omega)).mono ?_;rintro s w2 ⟨rfl,h2,T⟩;have np:=Z.trans T;obtain⟨P,Q,R⟩:=(Y.kept np N).drop b 0 d (by rw[r.J];rfl);rw[qx,lQ]at P Q R;have O:=HO.J d (iy (by rw[r.J];exact dv));clear x si Z T;go_wp2_with fail;refine(yL e k _ g d _ h2 O.1 (by have:=O.2;omega) (by simp only[List.length_append,bM];rw[show Int.toNat 8=8 from rfl];omega)).mono ?_;rintro s w3 ⟨rfl,t,U⟩;have H4:=t;have EV:=np.trans U;clear t U P Q R;have Y2:(f:Int)<=(c:Int):=(by omega);go_wp2;go_roundw;(case rel=>refine⟨b+f,c - f,m - f,_,o++bitsOf ((f:Int) - 1).toNat 8++kN g d,ak (by omega),rfl,by omega,?_,?_,?_,EV⟩;{intro Wb;rw[aE (by omega)];congr 2;omega};{have j:=A.J;rw[r.J,xb,<- r.J,<- HF.J,uc]at j;show _=_;rw[<- j,show((f:Int) - 1).toNat=f - 1 by omega];simp only[List.append_assoc]};have t:=H4;show Writer _ _ _ _;simpa only[List.append_assoc,show Int.toNat 8=8 from rfl]using t);case measure=>show c - f<c;omega
  obtain rfl:c=0:=(by omega);go_wp2;go_end0;refine⟨rfl,?_,y.J⟩;have j:=A.J;rw[kP (by omega)]at j;have:oi g []=[]:=rfl;rw[this,bQ]at j;rw[<- j];exact z.J
end S
