import Derived.Test.YtcoaphfimellcaaGreatDoorQAZ
import Derived.Test.YtcoaphfimellcaaGreatDoorQAY
set_option maxHeartbeats 0
set_option maxRecDepth 100000
namespace Go.Proofs.YtcoaphfimellcaaGreatDoor
open Go.RowKit
open _root_.Go.Proofs.Tryz
open Option renaming some→σ,none→ν
open Go.IntKind renaming i64→κ
open Go.Ending renaming returned→τ
open Go renaming World→ω,Value→υ
open Go.Value renaming int→ι,slice→ψ,pointer→π
variable{p:List υ}{m n l:Nat}{x:υ}
section
open Go.Shelf
attribute [local go_sem] kq
structure WN (q q2:Nat)(bv:υ)(L:List (List aD))(S:Nat)(W:ω):Prop where
 b:W.cell? ⟨q,0,ν⟩=σ bv
 r:W.cell? ⟨q2,0,ν⟩=σ (ι κ S)
 bat:eC W bv L
theorem aaI{c:Ending}{d B:Prop}(a:(c=τ (.bool true)/\d)\/(c=τ (.bool false)/\B)):∃b,c=τ (.bool b)/\Hid ((b=true/\d)\/(b=false/\B)):=by rcases a with⟨rfl,a⟩|⟨rfl,a⟩;{exact⟨true,rfl,ak (.inl ⟨rfl,a⟩)⟩};exact⟨false,rfl,ak (.inr ⟨rfl,a⟩)⟩
theorem CN{q q2 S N:Nat}{bv:υ}{L:List (List aD)}(hS:0<S)(Az:S<=64)(s:∀c∈L,c.length=N)(al:N<=64)(D:L≠[])(K:L.length<=1000) :
 anm m prog 155 #[π (σ ⟨q,0,ν⟩),π (σ ⟨q2,0,ν⟩)] (WN q q2 bv L S) (λa v X W=>yX X W bv v L (R8 a (min (a+S) N) L)) (·+S) N:=by
 intro am J U W C n KN F Y;refine callsIn_of_wp func155 rfl trivial ?_ rfl;simp only[ntmps155,List.size_toArray,List.length_cons,List.length_nil,Nat.reduceAdd,Nat.reduceSub,Array.replicate_succ,Array.replicate_zero,List.push_toArray,List.append_toArray,List.nil_append,List.cons_append];obtain⟨c,g⟩:∃c,L[0]?=σ c:=⟨L[0]'(jd.mpr D),af _⟩;have H:=s c (aA g);have DR:prog.follows .mixedOrders=true:=by kernel_rfl
 have x:=ak (λo (b:WN q q2 bv L S o)=>H ▸ rO b.bat g);have Q:=ak (λo (b:WN q q2 bv L S o) a (Z:a<N)=>OA (a:=a) (b:=min (a+S) N) b.bat (by omega) (λc g=>by have:=s c g;omega) K);have k:=ak C;have j:=ak n;have R:=ak F;clear C n F s D K g H;gi_wp2;gi_loopw [4] (λc wr=>∃a:Nat,a<=N+S/\c=ι κ a/\Hid (J a wr)) (λc _=>N - (intOf c).toNat);case atStart=>exact⟨0,aK _,rfl,ak Y⟩
 case round=>
  obtain⟨a,Z,rfl,e⟩:=hrel;have i:=k.J a wr e.J;have b0:=i.b;have r0:=i.r;have z:=jI (n:=m - 1).2 (x.J wr i);have T:=jI (n:=m - 1).2 (x.J wr.drew (k.J a _ (j.J _ _ _ e.J (aH (ah _ _)))));have ab:=i;clear i;by_cases A:a<N
  .have ju:(a:Int)<N:=(by omega);obtain⟨aa,t⟩:=nm (min (a+S) N);have p:=jI (n:=m - 1).2 (Q.J wr.drew (k.J a _ (j.J _ _ _ e.J (aH (ah _ _)))) a A);rw[<- t]at p;have y:=ak (λv u n=>R.J a v wr.drew u (j.J _ _ _ e.J (aH (ah _ _))) n A);rw[<- t]at y;have G:(aa:Int)=min ((a:Int)+S) N:=(by omega);have KE:IntKind.i64.wrap ((a:Int)+S)=(a:Int)+S:=(by rw[jC];omega);gi_wp2_with (refine⟨trivial,(λb=>nomatch b),?_⟩;gi_at_call 94;refine z.mono ?_;rintro d w' ⟨rfl,rfl⟩);clear t;rw[G]at p;clear G
   gi_region_with_o (first
    | (refine⟨trivial,(λb=>nomatch b),?_⟩;gi_at_call 94;(with_reducible refine lW T ?_);rintro d w' ⟨rfl,rfl⟩)
    | (refine⟨trivial,(λb=>nomatch b),?_⟩;gi_at_call 156;(with_reducible refine lW p ?_);rintro d u ⟨v,rfl,I,r⟩;have ac:=ak (j.J _ _ _ e.J ((aH (ah _ _)).trans (r.mono (ae _))));obtain⟨fn,an,ad,body,hy,E⟩:=y.J v u r I;have V:=ak (E.mono (R':=λd W'=>∃l,d=τ (.bool l)/\Hid ((l=true/\J (a+S) W')\/(l=false/\U W'))) (λd W' b=>aaI b));clear r I E)
    | (refine⟨(λb=>nomatch b),?_⟩;(with_reducible refine RoundIn.mono V.J ?_);rintro d W3 ⟨l,rfl,O⟩))
   all_goals(rcases O.J with⟨rfl,f⟩|⟨rfl,f⟩;{have r3:=(k.J _ _ f).r;have P:=ak f;clear f;gi_wp2;go_roundw;(case rel=>exact⟨a+S,by omega,by push_cast;rfl,P⟩);case measure=>simp[intOf];omega};gi_wp2;refine aB (sV rfl _ _ _) rfl ?_;exact⟨⟨_,rfl⟩,.inr f⟩)
  have ju:¬(a:Int)<N:=(by omega);gi_wp2_with (refine⟨trivial,(λb=>nomatch b),?_⟩;gi_at_call 94;(with_reducible refine lW z ?_);rintro d w' ⟨rfl,rfl⟩);go_end0;exact⟨⟨_,rfl⟩,.inl ⟨a,by omega,e.J⟩⟩
end
section
variable {B:Nat} {W W':ω}
theorem pP{c:Addr}{v:υ}(d:W.cell? c=σ v)(f:nS B W W'):W'.cell? c=σ v:=by
 have a:∃b,W.heap[c.block]?=σ b/\b.isCells=true:=by
  unfold World.cell? at d
  cases a:W.heap[c.block]? with
  |none=>simp[a]at d
  |some b=>cases b<;>simp[a]at d<;>exact⟨_,rfl,rfl⟩
 obtain⟨b,a,e⟩:=a;exact(bZ (w:=W) (a:=c) ((f.eW _ b a (.inr e)).trans a.symm)).trans d
theorem bu.turn{size:Nat}{v:υ}(a:bu W size v m p)(d:nS B W W'):bu W' size v m p:=by
 refine⟨a.1,?_⟩;rcases a.2 with g|⟨f,o,e,l,i,j,n⟩
 {exact .inl g}
 exact .inr ⟨f,o,e,l,i,ai j d.size,λb k=>by
  have c:p[b]?=σ (p[b]'(by have:=a.1;omega)):=af _;rw[c];exact pP ((n b k).trans c) d⟩
theorem oZ{size:Nat}{a:TypeId}{v:υ}(c:W.ownsRow m a size v n p)(k:nS B W W'):W'.ownsRow m a size v n p:=by
 refine⟨c.1,?_⟩;rcases c.2 with e|⟨b,d,cur,i,g,f,j⟩
 {exact .inl e};exact .inr ⟨b,d,cur,i,g,k.eW b _ f (.inr rfl),j⟩
theorem eC.turn{v:υ}{L:List (List aD)}(c:eC W v L)(a:nS B W W'):eC W' v L:=by obtain⟨l,d,e⟩:=c;exact⟨l,d.turn a,λj b i=>by obtain⟨k,f,g⟩:=e j b i;exact⟨k,f,bu.turn g a⟩⟩
theorem ik.turn{M:Nat->Prop}{v:υ}{L:List (List aD)}(c:ik M W v L)(a:nS B W W'):ik M W' v L:=by obtain⟨d,n,e,f⟩:=c;exact⟨d,n,e.turn a,λl b k=>by obtain⟨m,g,i,j⟩:=f l b k;exact⟨m,g,bu.turn i a,j⟩⟩
theorem yX.turn{w:ω}{v:υ}{L a:List (List aD)}(b:yX w W v x L a)(e:nS B W W'):yX w W' v x L a:=λM c d=>(b M c d).turn e
theorem qj.turn{cols:List br}{a:List (List (List aD))}(b:qj W cols p a)(k:nS B W W'):qj W' cols p a:=
 ⟨b.1,λi l c d e=>by obtain⟨j,f,g⟩:=b.2 i l c d e;exact⟨j,bu.turn f k,g⟩⟩
theorem oY.turn{e:Nat->Prop}{w:ω}{q:Nat}{cols:List br}{rD j:υ}{d:List (List (List aD))}{i:Int}(a:oY e w W q m cols x rD j p d i)(b:nS B W W')(k:w.heap.size<=B):oY e w W' q m cols x rD j p d i:=
 ⟨b.eW q _ a.eW (.inr rfl),bu.turn a.Ji b,oZ a.own b,a.sq.turn b,a.row,a.off,a.Mr,a.JU,a.keep.trans ⟨b.os,b.tape,b.output,b.size,λc g=>by
  have f:W.heap[c]?=σ (W.heap[c]'(ai g.1 a.keep.size)):=eu _;rw[f];exact b.eW c _ f (.inl (ai g.1 k))⟩,a.lq,a.zap,a.zin⟩
theorem WN.turn{q S:Nat}{L:List (List aD)}(a:WN q m x L S W)(b:nS B W W'):WN q m x L S W':=⟨pP a.b b,pP a.r b,a.bat.turn b⟩
end
def iU(M:Nat->Prop)(w:ω)(v:υ)(L:List (List aD)):Prop:=∀W:ω,w.heap.size<=W.heap.size->(∀b,b<w.heap.size->¬M b->W.heap[b]?=w.heap[b]?)->eC W v L
section
variable {M:Nat->Prop} {w w':ω} {v:υ} {L:List (List aD)}
theorem iU.batch(a:iU M w v L):eC w v L:=a w (ae _) (λ_ _ _=>rfl)
theorem iU.of(a:ik M w v L):iU M w v L:=λ_ c b=>(a.moves c b).batch
theorem iU.moves(b:iU M w v L)(e:w.heap.size<=w'.heap.size)(i:∀a,a<w.heap.size->¬M a->w'.heap[a]?=w.heap[a]?):iU (λa=>M a\/w.heap.size<=a) w' v L:=λW f g=>b W (ag e f) (λa c d=>(g a (ai c e) (λb=>b.elim d (by omega))).trans (i a c d))
theorem iU.sub{M':Nat->Prop}(b:iU M w v L)(g:∀a,M' a->M a):iU M' w v L:=λW e f=>b W e (λa c d=>f a c (λb=>d (g a b)))
theorem gone(w:ω)(a c:Nat)(b:a<w.heap.size):(w.putObj a (.deferred ν)).cell? ⟨a,c,ν⟩=ν:=by have:=World.putObj_heap_same (w:=w) (o:=.deferred ν) b;simp[World.cell?,this]
theorem iU.apart{d:List (List aD)}(y:iU M w v (bh m d))(U:0<m)(P:0<d.length):ik M w v (bh m d):=by
 have put:∀c,M c->eC (w.putObj c (.deferred ν)) v (bh m d):=λc g=>y _ (by simp) (λaa _ Q=>World.putObj_heap_other (λb=>Q (by rw[b];exact g)));have hL:(bh m d).length=m:=bB m d;obtain⟨vs,z,N⟩:=y.batch;have A:∀e r a,v=ψ (σ e) r a->¬M e.block:=λe r a X i=>by
  obtain⟨Z,o,p⟩:=put _ i;obtain⟨c,C,I,b,-,g,n⟩:=o.at (by omega);rw[X]at b
  cases b
  obtain⟨k,j,-⟩:=p 0 _ (gA U);have:=n 0 k j;rw[gone _ _ _ (by simpa using g)]at this
  cases this
 refine⟨A,vs,z,λf a l=>?_⟩;obtain⟨k,j,R⟩:=N f a l;have D:0<a.length:=by rw[ep (aA l)];exact P
 refine⟨k,j,R,λe r c' T i=>?_⟩;obtain⟨Z,o,p⟩:=put _ i;obtain⟨u',V,E⟩:=p f a l;obtain⟨c,C,I,b,-,g,n⟩:=z.at (by omega);obtain⟨g',o',Ao,u,-,Gx,G⟩:=o.at (by omega);rw[b]at u;cases u;have K:c≠e.block:=λO=>A _ _ _ b (by rw[O];exact i);have H:=n f k j;have t:=G f u' V;rw[bZ (w:=w) (a:=⟨c,C+f,ν⟩) (World.putObj_heap_other K),H]at t;cases t;obtain⟨g2,o2,vN,x,-,sC,F⟩:=bu.at E D;rw[T]at x;cases x;obtain⟨s,Y⟩:∃s,(bI a)[0]?=σ s:=by
  cases a with
  |nil=>simp at D
  |cons ab ac=>exact⟨_,rfl⟩
 have:=F 0 s Y;rw[gone _ _ _ (by simpa using sC)]at this;cases this
end
