import Derived.Test.YtfeckmaleonjjaaGreatDoorFAB
import Derived.BigQuiet
set_option maxHeartbeats 0
set_option maxRecDepth 100000
namespace Go.Proofs.YtfeckmaleonjjaaGreatDoor
open List renaming length→Λ
open Go.RowKit
open _root_.Go.Proofs.Tryz
open Option renaming some→σ,none→ν
open Go.Value renaming string→θ,slice→ψ,agg→χ
variable{w m:Nat}{p:World}
namespace S
def kC(w:World)(b off:Nat)(cs:Δ Cl):Prop:=
 ∀i c,cs[i]?=σ c->w.cell? ⟨b,off+i*3,ν⟩=σ (.bool c.bH)/\w.cell? ⟨b,off+i*3+1,ν⟩=σ (.int .i64 c.n)/\w.cell? ⟨b,off+i*3+2,ν⟩=σ (θ c.s)
theorem kC.kept{c:Nat->Prop}{e w':World}{d:Δ Cl}(g:kC e w m d)(b:bu c e w')(a:c w):kC w' w m d:=by intro n f l;obtain⟨i,j,k⟩:=g n f l;exact⟨(b.cell (p:=⟨w,_,ν⟩) a).trans i,(b.cell (p:=⟨w,_,ν⟩) a).trans j,(b.cell (p:=⟨w,_,ν⟩) a).trans k⟩
theorem kC.drop{c:Δ Cl}(f:kC p w m c)(a:Nat):kC p w (m+a*3) (c.drop a):=by intro b e d;rw[jA]at d;have:=f (a+b) e d;rw[show m+a*3+b*3=m+(a+b)*3 by omega];exact this
def Aj(c:Cl):Prop:=dK c.n/\c.s.size<=12
def jo(k:Int)(cs:Δ Cl):Δ Bool:=cs.flatMap (lM k)
theorem tg(a:Int)(c:Δ Cl)(b:Cl):jo a (c++[b])=jo a c++lM a b:=by simp[jo,List.flatMap_append]
theorem tL(b:Int)(c:Δ Cl)(d:∀a∈c,Aj a):(jo b c).length<=168*Λ c:=by induction c with|nil=>simp[jo]|cons a e j=>have g:jo b (a::e)=lM b a++jo b e:=rfl;have k:=IE b a (d a (by simp)).1;have l:=(d a (by simp)).2;have m:=j (λf i=>d f (by simp[i]));rw[g,au,cw];omega
theorem iG{c:Type}{a:Δ c}{b:c}(d:a[w]?=σ b):a.take (w+1)=a.take w++[b]:=by rw[bS,d];rfl
theorem II(d:Nat->Prop)(g:Nat)(n:Δ Bool)(f:Int)(a:Δ Cl)(u:Option Addr)(l E L:Nat)(e:World)(m:eL d e g n)
 (A:0<Λ a->u=σ ⟨l,E,ν⟩) (B:kC e l E a) (z:0<Λ a->d l) (D:∀b∈a,Aj b) (U:Λ a<=64) (R:Λ n<=1000) :
 Calls prog 356 #[χ #[],.pointer (σ ⟨g,0,ν⟩),.int .i64 f,ψ u (Λ a) L] e λw F=>w=.returned (.tuple #[])/\eL d F g (n++jo f a)/\bu d e F:=by
 have I:=B;have t:=ak D;clear B D;go_in;go_wp2;go_loopw[12] (λb wr=>∃c:Nat,c<=Λ a/\b=.int .i64 c/\eL d wr g (n++jo f (a.take c))/\bu d e wr) (λb _=>Λ a - (intOf b).toNat);case atStart=>exact⟨0,aB _,rfl,by simpa[jo]using m.alloc _,(bu.refl d e).alloc m.old _⟩
 case round=>obtain⟨c,T,rfl,k,i⟩:=hrel;by_cases v:c<Λ a;{have Q:=aX.2 v;obtain⟨b,r⟩:∃b,a[c]?=σ b:=⟨a[c],af v⟩;obtain rfl:=A (by omega);obtain⟨K,O,P⟩:=I.kept i (z (by omega)) c b r;have j:=k;have o:=i;have s:=ak r;clear m k i r A z;have V:l<wr.heap.size:=bT _ _ K;go_wp21;have p:=t.J b (aq s.J);have C:=tL f (a.take c) (λM N=>t.J M (iE N));rw[bZ]at C;refine(Ai d g _ f b _ (j.alloc _) p.1 (by have:=p.2;omega) (by rw[au];omega)).mono ?_;rintro w X ⟨rfl,x,y⟩;have G:=x;have H:=(o.alloc j.old _).trans y;clear x y p C;go_wp2;go_roundw;(case rel=>refine⟨c+1,by omega,by go_num,?_,H⟩;rw[iG s.J,tg,<- cC];exact G);case measure=>simp[intOf];omega};obtain rfl:c=Λ a:=(by omega);have j:=k;have o:=i;clear m k i;go_wp2;go_end0;refine⟨rfl,?_,o⟩;have:=j;rwa[aQ (ae _)]at this
end S
namespace S
def Cl.beq(a b:Cl):Bool:=a.bH==b.bH&&a.n==b.n&&a.s.toList==b.s.toList
theorem Mj(a b:Cl)(c:World):(binOp .neq 263 (χ #[.bool a.bH,.int .i64 a.n,θ a.s]) (χ #[.bool b.bH,.int .i64 b.n,θ b.s])).run prog c=.ok (.bool (!a.beq b)) c:=by go_simp;by_cases d:a.bH=b.bH<;>by_cases e:a.n=b.n<;>by_cases f:a.s.toList=b.s.toList<;>simp[Cl.beq,d,e,f]
theorem Cl.beq_iff(a b:Cl):a.beq b=true↔a=b:=by constructor;{intro c;simp only[Cl.beq,Bool.and_eq_true,beq_iff_eq]at c;have d:a.s=b.s:=(by have:=c.2;rw[ja,ja]at this;cases ha:a.s;cases hb:b.s;rw[ha,hb]at this;congr 1;exact pF.1 this);exact Cl.ext' c.1.1 c.1.2 d};rintro rfl;simp[Cl.beq]
theorem B5{k:Type}{p:k->Bool}:∀(c:Δ k) (a:Nat),a<=Λ c->(∀e b,e<a->c[e]?=σ b->p b=true)->(∀b,c[a]?=σ b->p b=false)->(c.takeWhile p).length=a:=by intro c;induction c with|nil=>(intro a d _ _;simp at d;simp[d])|cons b n l=>intro a d i j;cases a with|zero=>(rw[gS,j b (by simp)];rfl)|succ a=>rw[gS,i 0 b (by omega) (by simp),aN rfl,cw];rw[l a (by simpa using d) (λe f m g=>i (e+1) f (by omega) (by simpa using g)) (λf g=>j f (by simpa using g))]
def fr(cs:Δ Cl):Nat:=match cs with|[]=>0|c::r=>((c::r).takeWhile λd=>d.beq c).length
theorem Ny(c:Δ Cl)(E:Option Addr)(m P U:Nat)(j:World)(L:0<Λ c->E=σ ⟨m,P,ν⟩)(M:kC j m P c)(ad:Λ c<=1000) :
 Calls prog 340 #[ψ E (Λ c) U] j λg Z=>g=.returned (.int .i64 (fr c:Int))/\Below j.heap.size j Z:=by
 have B:=M;clear M;go_in;go_wp2;go_loopw[7] (λa wr=>∃d:Nat,d<=Λ c/\a=.int .i64 d/\(∀e a b,e<d->c[e]?=σ a->c[0]?=σ b->a.beq b=true)/\Below j.heap.size j wr) (λa _=>Λ c - (intOf a).toNat);case atStart=>exact⟨0,aB _,rfl,λe _ _ h=>by omega,aj _ _⟩
 case round=>
  obtain⟨d,hi,rfl,O,l⟩:=hrel;have t:=ak O;clear O;by_cases v:d<Λ c
  .have gY:=aX.2 v;have aa:(0:Int)<(Λ c:Int):=(by omega);have ac:0<Λ c:=(by omega);obtain⟨a,z⟩:∃a,c[d]?=σ a:=⟨c[d],af v⟩;obtain⟨b,x⟩:∃b,c[0]?=σ b:=⟨c[0],af (by omega)⟩;obtain rfl:=L (by omega);obtain⟨F,R,T⟩:=B d a z;obtain⟨H,I,K⟩:=B 0 b x;rw[oo,kU]at H I K;have N:m<j.heap.size:=bT _ _ F;have ab:m<wr.heap.size:=aw N l.size;rw[<- l.cell (p:=⟨m,_,ν⟩) N]at F R T H I K;have k:=l;have D:=ak z;have C:=ak x;clear z x L l;by_cases n:a.beq b=true
   .have Y:∀i,(binOp .neq 263 (χ #[.bool a.bH,.int .i64 a.n,θ a.s]) (χ #[.bool b.bH,.int .i64 b.n,θ b.s])).run prog i=.ok (.bool false) i:=λi=>by rw[Mj,n];rfl
    have u:=ak n;clear n;go_wp2;go_region;go_wp2;go_roundw;(case rel=>refine⟨d+1,by omega,by go_num,?_,(k.alloc k.size _).drew⟩;intro e f G p A o;by_cases Q:e=d;{subst Q;have V:f=a:=bh (A.symm.trans D.J);have X:G=b:=bh (o.symm.trans C.J);rw[V,X];exact u.J};exact t.J e f G (by omega) A o);case measure=>simp[intOf];omega
   have s:a.beq b=false:=(by simpa using n);have Y:∀i,(binOp .neq 263 (χ #[.bool a.bH,.int .i64 a.n,θ a.s]) (χ #[.bool b.bH,.int .i64 b.n,θ b.s])).run prog i=.ok (.bool true) i:=λi=>by rw[Mj,s];rfl
   have u:=ak s;clear n s;go_wp2;go_region;go_wp2;go_ret;refine⟨bI Ending.returned (bI (Value.int IntKind.i64) ?_),(k.alloc k.size _).drew⟩;cases hcs:c with
   |nil=>subst hcs;simp at v
   |cons f r=>
    subst hcs;have o:f=b:=(by simpa using C.J)
    subst o;have:=B5 (p:=λg=>g.beq f) (f::r) d (by omega) (λe g p y=>t.J e g f p y (by simp)) (λg y=>by
     have:g=a:=bh (y.symm.trans D.J);rw[this];exact u.J)
    rw[fr,this]
  obtain rfl:d=Λ c:=(by omega);have k:=l;clear l;go_wp2;go_ret;refine⟨bI Ending.returned (bI (Value.int IntKind.i64) ?_),k⟩;cases hcs:c with|nil=>simp[fr]|cons a r=>subst hcs;have:=B5 (p:=λb=>b.beq a) (a::r) (a::r).length (ae _) (λe b p w=>t.J e b a p w (by simp)) (λb w=>by simp at w);rw[fr,this]
theorem IJ{cs:Δ Cl}(b:0<Λ cs):0<fr cs:=by cases cs with|nil=>simp at b|cons a c=>have:a.beq a=true:=(Cl.beq_iff a a).2 rfl;rw[fr,gS,this,aN rfl];simp
theorem BD{c:Type}(b:c->Bool)(a:Δ c):(a.takeWhile b).length<=Λ a:=by have:=bI List.length (si (p:=b) (l:=a));rw[au]at this;omega
theorem WC(a:Δ Cl):fr a<=Λ a:=by cases a with|nil=>simp[fr]|cons b c=>exact BD _ _
def uV(k:Int):Nat->Δ Cl->Δ Bool
 |0,_=>[]
 |_+1,[]=>[]
 |f+1,c::r=>eu (fr (c::r) - 1) 8++lM k c++uV k f ((c::r).drop (fr (c::r)))
def pA(k:Int)(cs:Δ Cl):Δ Bool:=uV k (Λ cs) cs
theorem KT(d:Int):∀(a:Nat) (e:Δ Cl),Λ e<=a->uV d a e=pA d e:=by intro a;induction a using Nat.strongRecOn with|_ a g=>intro e f;cases e with|nil=>cases a<;>rfl|cons c b=>cases a with|zero=>simp at f|succ a=>have k:=IJ (cs:=c::b) (by simp);have j:=WC (c::b);show eu (fr (c::b) - 1) 8++lM d c++uV d a ((c::b).drop (fr (c::b)))=eu (fr (c::b) - 1) 8++lM d c++uV d (Λ b) ((c::b).drop (fr (c::b)));rw[g a (by omega) _ (by rw[dB];simp at f ⊢;omega)];by_cases i:Λ b<a+1;{rw[g (Λ b) i _ (by rw[dB];simp;omega)]};simp at f;omega
theorem yz(c:Int)(a:Cl)(b:Δ Cl):pA c (a::b)=eu (fr (a::b) - 1) 8++lM c a++pA c ((a::b).drop (fr (a::b))):=by have d:=IJ (cs:=a::b) (by simp);show eu (fr (a::b) - 1) 8++lM c a++uV c (Λ b) ((a::b).drop (fr (a::b)))=_;rw[KT c (Λ b) _ (by rw[dB];simp;omega)]
end S
namespace S
theorem IK(f:Int)(b:Δ Cl)(c:∀a∈b,Aj a):(pA f b).length<=176*Λ b:=by
 suffices H:∀d,∀b:Δ Cl,Λ b=d->(∀a∈b,Aj a)->(pA f b).length<=176*Λ b from H _ b rfl c
 intro d;induction d using Nat.strongRecOn with|_ d l=>intro b k c;cases b with|nil=>simp[pA,uV]|cons a e=>have p:=IJ (cs:=a::e) (by simp);have o:=WC (a::e);have m:=IE f a (c a (by simp)).1;have n:=(c a (by simp)).2;have i:=l ((a::e).drop (fr (a::e))).length (by rw[dB,<- k];omega) _ rfl (λg j=>c g (mZ j));rw[yz];simp only[List.length_append,cA];rw[dB]at i;omega
theorem KU(e:Nat->Prop)(k:Nat)(u:Δ Bool)(g:Int)(a:Δ Cl)(B:Option Addr)(i m D:Nat)(l:World)(H:eL e l k u)
 (V:0<Λ a->B=σ ⟨i,m,ν⟩) (Y:kC l i m a) (U:0<Λ a->e i) (I:∀d∈a,Aj d) (am:Λ a<=64) (Ib:Λ a<=D) (hb:Λ u<=1000) :
 Calls prog 338 #[χ #[],.pointer (σ ⟨k,0,ν⟩),.int .i64 g,ψ B (Λ a) D] l λs w'=>s=.returned (.tuple #[])/\eL e w' k (u++pA g a)/\bu e l w':=by
 have HO:=ak I;have al:=IK g a I;clear I;go_in;go_wp2;go_loopw[3] (λE wr=>∃(b c o:Nat) (C:Option Addr) (n:Δ Bool),Hid (b+c=Λ a)/\E=ψ C c o/\c<=o/\(0<c->C=σ ⟨i,m+b*3,ν⟩)/\Hid (n++pA g (a.drop b)=pA g a)/\Hid (eL e wr k (u++n))/\Hid (bu e l wr))
  (λE _=>lenOf E)
 case atStart=>exact⟨0,Λ a,D,B,[],ak (by omega),rfl,Ib,by simpa using V,by simp[Hid],by simpa[Hid]using H.alloc _,(bu.refl e l).alloc H.old _⟩
 case round=>obtain⟨b,c,o,C,n,M,rfl,an,X,A,z,y⟩:=hrel;have ad:b+c<=Λ a:=(by have:=M.J;omega);have ag:Λ a<=b+c:=(by have:=M.J;omega);have ao:Λ n<=11264:=(by have F:=bI List.length A.J;rw[au]at F;omega);clear H;by_cases Z:0<c;{have Bv:=aX.2 Z;obtain rfl:=X Z;have N:=U (by omega);have ab:=(Y.kept y.J N).drop b;have r:(a.drop b).length=c:=(by rw[dB];omega);obtain⟨d,v,L⟩:∃d v,a.drop b=d::v:=(by cases h:a.drop b with|nil=>rw[h]at r;simp at r;omega|cons d v=>exact⟨d,v,rfl⟩);have ac:=IJ (cs:=a.drop b) (by omega);have K:=WC (a.drop b);have w:=Ny (a.drop b) (σ ⟨i,m+b*3,ν⟩) i (m+b*3) o wr (λ_=>rfl) ab (by omega);rw[r]at w K;have⟨f,G⟩:=nm (fr (a.drop b));rw[<- G]at w ac K;have HF:=ak G;have p:=ak L;clear X r G L V U;go_wp21;refine w.mono ?_;rintro s w1 ⟨rfl,F⟩;clear w;go_wp21;have x:=nG F;have uh:=z.J.xq x;have mL:=y.J.trans (bu.uN x z.J.old);refine(oe e k _ _ _ _ uh (by omega) (by omega) (by omega) (by rw[show Int.toNat 8=8 from rfl,au];omega)).mono ?_;rintro s w2 ⟨rfl,h2,R⟩;have j6:=mL.trans R;have⟨O,P,Q⟩:=(Y.kept j6 N).drop b 0 d (by rw[p.J];rfl);rw[oo,kU]at O P Q;have aa:=HO.J d (mZ (by rw[p.J];exact ot));clear x uh mL R;go_wp21;refine(Ai e k _ g d _ h2 aa.1 (by have:=aa.2;omega) (by simp only[List.length_append,cA];rw[show Int.toNat 8=8 from rfl];omega)).mono ?_;rintro s w3 ⟨rfl,t,T⟩;have H4:=t;have EK:=j6.trans T;clear t T O P Q;have ai:(f:Int)<=(c:Int):=(by omega);go_wp2;go_roundw;(case rel=>refine⟨b+f,c - f,o - f,_,n++eu ((f:Int) - 1).toNat 8++lM g d,ak (by omega),rfl,by omega,?_,?_,?_,EK⟩;{intro YC;rw[aH (by omega)];congr 2;omega};{have j:=A.J;rw[p.J,yz,<- p.J,<- HF.J,vA]at j;show _=_;rw[<- j,show((f:Int) - 1).toNat=f - 1 by omega];simp only[List.append_assoc]};have t:=H4;show eL _ _ _ _;simpa only[List.append_assoc,show Int.toNat 8=8 from rfl]using t);case measure=>show c - f<c;omega};obtain rfl:c=0:=(by omega);go_wp2;go_end0;refine⟨rfl,?_,y.J⟩;have j:=A.J;rw[rR (by omega)]at j;have:pA g []=[]:=rfl;rw[this,cM]at j;rw[<- j];exact z.J
end S
