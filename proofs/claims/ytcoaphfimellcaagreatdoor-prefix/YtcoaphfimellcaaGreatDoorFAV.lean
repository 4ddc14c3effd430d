import Derived.Test.YtcoaphfimellcaaGreatDoorFAU
import Derived.Test.YtcoaphfimellcaaGreatDoorFAS
set_option maxHeartbeats 0
set_option maxRecDepth 100000
namespace Go.Proofs.YtcoaphfimellcaaGreatDoor
open Go.RowKit
open _root_.Go.Proofs.Tryz
open Option renaming some→σ,none→ν
open Go renaming World→ω,Value→υ
variable{p:List υ}{m n l:Nat}{x:υ}
section
open Go.Shelf
attribute [local go_sem] lf
structure Zt (q q2:Nat)(bv:υ)(L:List (List aB))(S:Nat)(W:ω):Prop where
 b:W.cell? ⟨q,0,ν⟩=σ bv
 r:W.cell? ⟨q2,0,ν⟩=σ (.int .i64 S)
 bat:fl W bv L
theorem ac6{c:Ending}{d B:Prop}(a:(c=.returned (.bool true)/\d)\/(c=.returned (.bool false)/\B)):∃b,c=.returned (.bool b)/\Hid ((b=true/\d)\/(b=false/\B)):=by rcases a with⟨rfl,a⟩|⟨rfl,a⟩;{exact⟨true,rfl,au (.inl ⟨rfl,a⟩)⟩};exact⟨false,rfl,au (.inr ⟨rfl,a⟩)⟩
theorem DU{q q2 S N:Nat}{bv:υ}{L:List (List aB)}(hS:0<S)(BI:S<=64)(s:∀c∈L,c.length=N)(al:N<=64)(E:L≠[])(x:L.length<=1000) :
 ap2 m prog 155 #[.pointer (σ ⟨q,0,ν⟩),.pointer (σ ⟨q2,0,ν⟩)] (Zt q q2 bv L S) (λa v X W=>Ab X W bv v L (UN a (min (a+S) N) L)) (·+S) N:=by
 intro am J T W D n Oq G Y;refine callsIn_of_wp func155 rfl trivial ?_ rfl;simp only[ntmps155,List.size_toArray,List.length_cons,List.length_nil,Nat.reduceAdd,Nat.reduceSub,Array.replicate_succ,Array.replicate_zero,List.push_toArray,List.append_toArray,List.nil_append,List.cons_append];obtain⟨c,g⟩:∃c,L[0]?=σ c:=⟨L[0]'(jL.mpr E),af _⟩;have I:=s c (aA g);have EP:prog.follows .mixedOrders=true:=by kernel_rfl
 have y:=au (λp (b:Zt q q2 bv L S p)=>I ▸ sQ b.bat g);have Q:=au (λp (b:Zt q q2 bv L S p) a (Z:a<N)=>QP (a:=a) (b:=min (a+S) N) b.bat (by omega) (λc g=>by have:=s c g;omega) x);have k:=au D;have j:=au n;have R:=au G;clear D n G s E x g I;gi_wp2;gi_loopw [4] (λc wr=>∃a:Nat,a<=N+S/\c=.int .i64 a/\Hid (J a wr)) (λc _=>N - (intOf c).toNat);case atStart=>exact⟨0,aI _,rfl,au Y⟩
 case round=>
  obtain⟨a,Z,rfl,e⟩:=hrel;have i:=k.J a wr e.J;have b0:=i.b;have r0:=i.r;have z:=kD (n:=m - 1).2 (y.J wr i);have U:=kD (n:=m - 1).2 (y.J wr.drew (k.J a _ (j.J _ _ _ e.J (aH (ah _ _)))));have ab:=i;clear i;by_cases C:a<N
  .have jY:(a:Int)<N:=(by omega);obtain⟨aa,t⟩:=nm (min (a+S) N);have o:=kD (n:=m - 1).2 (Q.J wr.drew (k.J a _ (j.J _ _ _ e.J (aH (ah _ _)))) a C);rw[<- t]at o;have A:=au (λv u n=>R.J a v wr.drew u (j.J _ _ _ e.J (aH (ah _ _))) n C);rw[<- t]at A;have H:(aa:Int)=min ((a:Int)+S) N:=(by omega);have Ld:IntKind.i64.wrap ((a:Int)+S)=(a:Int)+S:=(by rw[kq];omega);gi_wp2_with (refine⟨trivial,(λb=>nomatch b),?_⟩;gi_at_call 94;refine z.mono ?_;rintro d w' ⟨rfl,rfl⟩);clear t;rw[H]at o;clear H
   gi_region_with_o (first
    | (refine⟨trivial,(λb=>nomatch b),?_⟩;gi_at_call 94;(with_reducible refine mH U ?_);rintro d w' ⟨rfl,rfl⟩)
    | (refine⟨trivial,(λb=>nomatch b),?_⟩;gi_at_call 156;(with_reducible refine mH o ?_);rintro d u ⟨v,rfl,K,r⟩;have ac:=au (j.J _ _ _ e.J ((aH (ah _ _)).trans (r.mono (ae _))));obtain⟨fn,an,ad,body,hy,F⟩:=A.J v u r K;have V:=au (F.mono (R':=λd W'=>∃l,d=.returned (.bool l)/\Hid ((l=true/\J (a+S) W')\/(l=false/\T W'))) (λd W' b=>ac6 b));clear r K F)
    | (refine⟨(λb=>nomatch b),?_⟩;(with_reducible refine RoundIn.mono V.J ?_);rintro d W3 ⟨l,rfl,O⟩))
   all_goals rcases O.J with⟨rfl,f⟩|⟨rfl,f⟩;{have r3:=(k.J _ _ f).r;have P:=au f;clear f;gi_wp2;go_roundw;(case rel=>exact⟨a+S,by omega,by push_cast;rfl,P⟩);case measure=>simp[intOf];omega};gi_wp2;refine aD (ui rfl _ _ _) rfl ?_;exact⟨⟨_,rfl⟩,.inr f⟩
  have jY:¬(a:Int)<N:=(by omega);gi_wp2_with (refine⟨trivial,(λb=>nomatch b),?_⟩;gi_at_call 94;(with_reducible refine mH z ?_);rintro d w' ⟨rfl,rfl⟩);go_end0;exact⟨⟨_,rfl⟩,.inl ⟨a,by omega,e.J⟩⟩
end
section
variable {B:Nat} {W W':ω}
theorem qt{c:Addr}{v:υ}(d:W.cell? c=σ v)(f:oC B W W'):W'.cell? c=σ v:=by have a:∃b,W.heap[c.block]?=σ b/\b.isCells=true:=(by unfold World.cell? at d;cases a:W.heap[c.block]? with|none=>simp[a]at d|some b=>cases b<;>simp[a]at d<;>exact⟨_,rfl,rfl⟩);obtain⟨b,a,e⟩:=a;exact(cy (w:=W) (a:=c) ((f.fQ _ b a (.inr e)).trans a.symm)).trans d
theorem bz.turn{size:Nat}{v:υ}(a:bz W size v m p)(d:oC B W W'):bz W' size v m p:=by
 refine⟨a.1,?_⟩;rcases a.2 with g|⟨f,o,e,l,i,j,n⟩
 {exact .inl g}
 exact .inr ⟨f,o,e,l,i,ai j d.size,λb k=>by
  have c:p[b]?=σ (p[b]'(by have:=a.1;omega)):=af _;rw[c];exact qt ((n b k).trans c) d⟩
theorem pK{size:Nat}{a:TypeId}{v:υ}(c:W.ownsRow m a size v n p)(k:oC B W W'):W'.ownsRow m a size v n p:=by
 refine⟨c.1,?_⟩;rcases c.2 with e|⟨b,d,cur,i,g,f,j⟩
 {exact .inl e};exact .inr ⟨b,d,cur,i,g,k.fQ b _ f (.inr rfl),j⟩
theorem fl.turn{v:υ}{L:List (List aB)}(c:fl W v L)(a:oC B W W'):fl W' v L:=by obtain⟨l,d,e⟩:=c;exact⟨l,d.turn a,λj b i=>by obtain⟨k,f,g⟩:=e j b i;exact⟨k,f,bz.turn g a⟩⟩
theorem je.turn{M:Nat->Prop}{v:υ}{L:List (List aB)}(c:je M W v L)(a:oC B W W'):je M W' v L:=by obtain⟨d,n,e,f⟩:=c;exact⟨d,n,e.turn a,λl b k=>by obtain⟨m,g,i,j⟩:=f l b k;exact⟨m,g,bz.turn i a,j⟩⟩
theorem Ab.turn{w:ω}{v:υ}{L a:List (List aB)}(b:Ab w W v x L a)(e:oC B W W'):Ab w W' v x L a:=λM c d=>(b M c d).turn e
theorem qK.turn{cols:List bu}{a:List (List (List aB))}(b:qK W cols p a)(k:oC B W W'):qK W' cols p a:=
 ⟨b.1,λi l c d e=>by obtain⟨j,f,g⟩:=b.2 i l c d e;exact⟨j,bz.turn f k,g⟩⟩
theorem pJ.turn{e:Nat->Prop}{w:ω}{q:Nat}{cols:List bu}{sy j:υ}{d:List (List (List aB))}{i:Int}(a:pJ e w W q m cols x sy j p d i)(b:oC B W W')(k:w.heap.size<=B):pJ e w W' q m cols x sy j p d i:=
 ⟨b.fQ q _ a.fQ (.inr rfl),bz.turn a.KR b,pK a.own b,a.tC.turn b,a.row,a.off,a.On,a.Lt,a.keep.trans ⟨b.os,b.tape,b.output,b.size,λc g=>by
  have f:W.heap[c]?=σ (W.heap[c]'(ai g.1 a.keep.size)):=eS _;rw[f];exact b.fQ c _ f (.inl (ai g.1 k))⟩,a.lq,a.zap,a.zin⟩
theorem Zt.turn{q S:Nat}{L:List (List aB)}(a:Zt q m x L S W)(b:oC B W W'):Zt q m x L S W':=⟨qt a.b b,qt a.r b,a.bat.turn b⟩
end
def jC(M:Nat->Prop)(w:ω)(v:υ)(L:List (List aB)):Prop:=∀W:ω,w.heap.size<=W.heap.size->(∀b,b<w.heap.size->¬M b->W.heap[b]?=w.heap[b]?)->fl W v L
section
variable {M:Nat->Prop} {w w':ω} {v:υ} {L:List (List aB)}
theorem jC.batch(a:jC M w v L):fl w v L:=a w (ae _) (λ_ _ _=>rfl)
theorem jC.of(a:je M w v L):jC M w v L:=λ_ c b=>(a.moves c b).batch
theorem jC.moves(b:jC M w v L)(e:w.heap.size<=w'.heap.size)(i:∀a,a<w.heap.size->¬M a->w'.heap[a]?=w.heap[a]?):jC (λa=>M a\/w.heap.size<=a) w' v L:=λW f g=>b W (ag e f) (λa c d=>(g a (ai c e) (λb=>b.elim d (by omega))).trans (i a c d))
theorem jC.sub{M':Nat->Prop}(b:jC M w v L)(g:∀a,M' a->M a):jC M' w v L:=λW e f=>b W e (λa c d=>f a c (λb=>d (g a b)))
theorem gone(w:ω)(a c:Nat)(b:a<w.heap.size):(w.putObj a (.deferred ν)).cell? ⟨a,c,ν⟩=ν:=by have:=World.putObj_heap_same (w:=w) (o:=.deferred ν) b;simp[World.cell?,this]
theorem jC.apart{d:List (List aB)}(y:jC M w v (bh m d))(R:0<m)(N:0<d.length):je M w v (bh m d):=by
 have put:∀c,M c->fl (w.putObj c (.deferred ν)) v (bh m d):=λc g=>y _ (by simp) (λaa _ O=>World.putObj_heap_other (λb=>O (by rw[b];exact g)));have hL:(bh m d).length=m:=bE m d;obtain⟨vs,z,I⟩:=y.batch;have A:∀e r a,v=.slice (σ e) r a->¬M e.block:=λe r a U i=>by
  obtain⟨X,o,p⟩:=put _ i;obtain⟨c,C,G,b,-,g,n⟩:=o.at (by omega);rw[U]at b
  cases b
  obtain⟨k,j,-⟩:=p 0 _ (ig R);have:=n 0 k j;rw[gone _ _ _ (by simpa using g)]at this
  cases this
 refine⟨A,vs,z,λf a l=>?_⟩;obtain⟨k,j,P⟩:=I f a l;have t:0<a.length:=by rw[eR (aA l)];exact N
 refine⟨k,j,P,λe r c' Q i=>?_⟩;obtain⟨X,o,p⟩:=put _ i;obtain⟨Z,T,D⟩:=p f a l;obtain⟨c,C,G,b,-,g,n⟩:=z.at (by omega);obtain⟨g',o',Bu,u,-,Hk,E⟩:=o.at (by omega);rw[b]at u;cases u;have H:c≠e.block:=λK=>A _ _ _ b (by rw[K];exact i);have c1:=n f k j;have c2:=E f Z T;rw[cy (w:=w) (a:=⟨c,C+f,ν⟩) (World.putObj_heap_other H),c1]at c2;cases c2;obtain⟨g2,o2,wT,x,-,Y,F⟩:=bz.at D t;rw[Q]at x;cases x;obtain⟨s,V⟩:∃s,(bJ a)[0]?=σ s:=(by cases a with|nil=>simp at t|cons ab ac=>exact⟨_,rfl⟩);have:=F 0 s V;rw[gone _ _ _ (by simpa using Y)]at this;cases this
end
