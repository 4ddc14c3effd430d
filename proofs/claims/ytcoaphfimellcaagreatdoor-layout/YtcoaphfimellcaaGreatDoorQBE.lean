import Derived.Test.YtcoaphfimellcaaGreatDoorQBA
import Derived.Deep.DeepCutAuto
import Derived.Deep.RegionHeld3
set_option maxHeartbeats 0
set_option maxRecDepth 100000
namespace Go.Proofs.YtcoaphfimellcaaGreatDoor
open Go.RowKit
open _root_.Go.Proofs.Tryz
open Option renaming some→σ,none→ν
open Go.IntKind renaming i64→κ
open Go.Ending renaming returned→τ
open Go.Obj renaming cells→ξ
open Go renaming World→ω,Value→υ
open Go.RowKit renaming Below→δ
open Go.Value renaming int→ι,slice→ψ,agg→χ
variable{w:Nat->Prop}{p:ω}{m:υ}{x:Nat}
theorem SQ(a:Nat)(b:List (List aD)):(bh a b).map (λ_=>([]:List aD))=bh a []:=by unfold bh;simp
theorem Xq{g:ω}{k:Nat}{t:List (List aD)}(B:∀i,w i->i<p.heap.size)(C:iU w p m (bh x t))(o:δ p.heap.size p g)(E:0<x)(F:x<=1000)(z:k<=t.length):Calls prog 156 #[m,ι κ 0,ι κ k] g λr v=>∃d j c,r=τ (ψ d j c)/\iU (λi=>w i\/(p.heap.size<=i/\i<g.heap.size)) v (ψ d j c) (bh x (t.take k))/\δ g.heap.size g v:=by
 have G:=C.batch.below o (ae _);by_cases M:k=0
 .subst M;refine(Xp G (by rw[bB];exact F)).mono ?_;rintro r v ⟨Y,us,rfl,n,y,e⟩;obtain⟨d,c,rfl,-,-⟩:=cu n;refine⟨_,_,_,rfl,λaa hs z=>?_,e⟩;rw[lh,<- SQ x t];refine SP (B:=g.heap.size) ?_ y;refine⟨n.1,?_⟩;rcases n.2 with a|⟨q,K,cur,f,U,u,r⟩
  {exact .inl a};exact .inr ⟨q,K,cur,f,U,(z q (aw u) (λa=>by have:=o.size;rcases a with a|a;have:=B q a;omega;omega)).trans u,r⟩
 refine(OA (a:=0) (b:=k) G (by omega) (λc u=>by rw[ep u];exact z) (by rw[bB];exact F)).mono ?_
 rintro r v ⟨Y,rfl,n,y⟩;have R:=C.apart E (by omega);have e:=n (λs=>w s\/(p.heap.size<=s/\s<g.heap.size)) (λs a=>by have:=o.size;rcases a with a|a;have:=B s a;omega;exact a.2) (by
  obtain⟨Q,Z,e,N⟩:=R;refine⟨λd j c f b=>?_,Z,bu.below e o (ae _),λV c D=>?_⟩
  . rcases b with b|b
    . exact Q d j c f b
    . obtain⟨L,W,I,l,-,T,-⟩:=e.at (by rw[bB];exact E)
      rw[f]at l
      cases l
      simp at b;omega
  . obtain⟨X,O,A,P⟩:=N V c D
    refine⟨X,O,bu.below A o (ae _),λd j H f b=>?_⟩;rcases b with b|b
    . exact P d j H f b
    . obtain⟨L,W,I,l,-,T,-⟩:=bu.at A (by rw[ep (aA D)];omega)
      rw[f]at l
      cases l
      simp at b;omega)
 rw[tM,nZ,oA]at e;obtain⟨d,c,rfl⟩:=e.batch.slice;exact⟨_,_,_,rfl,iU.of e,y⟩
theorem O1{a q:Addr}{b:υ}(d:p.cell? a=σ b)(c:a.block≠q.block):(p.setCell q m).cell? a=σ b:=(bZ (w:=p) (ay _ _ _ _ c)).trans d
theorem Xr{k:Nat}{j:List (List aD)}(hM:∀A,w A->A<p.heap.size)(z:iU w p m (bh x j))(X:0<x)(ac:x<=1000)(c:Option Addr)(d a:Nat)(wd:Int):Calls prog 315 #[χ #[ι κ k],χ #[ψ c d a,m],ι κ wd] p λG H=>∃r f s,G=τ (.tuple #[χ #[ψ c d a,ψ r f s],χ #[ι κ 0,ι κ 0]])/\iU w H (ψ r f s) (bh x (j.take k))/\δ p.heap.size p H:=by
 obtain⟨g,i,rfl⟩:=z.batch.slice;rw[bB]at z ⊢;obtain⟨b,E⟩:=nm ((((p.alloc (ξ #[ι κ k] 293)).alloc (ξ #[ψ c d a,ψ g x i] 154)).alloc (ξ #[ψ ν 0 0,ψ ν 0 0] 154)).alloc (ξ #[ι κ 0,ι κ 0] 76));have t:=fX p (ξ #[ι κ k] 293) (ξ #[ψ c d a,ψ g x i] 154);have e:=fX ((p.alloc (ξ #[ι κ k] 293)).alloc (ξ #[ψ c d a,ψ g x i] 154)) (ξ #[ψ ν 0 0,ψ ν 0 0] 154) (ξ #[ι κ 0,ι κ 0] 76);have Y:((p.alloc (ξ #[ι κ k] 293)).alloc (ξ #[ψ c d a,ψ g x i] 154)).heap.size=p.heap.size+2:=by simp
 rw[Y,<- E]at e;have o:δ p.heap.size p b:=t.1.trans (e.1.mono (by omega));have pD:=ak (λwr (n:δ b.heap.size b wr)=>(show((wr.cell? ⟨p.heap.size,0,ν⟩=σ (ι κ k))/\(wr.cell? ⟨p.heap.size+1,0,ν⟩=σ (ψ c d a)/\wr.cell? ⟨p.heap.size+1,1,ν⟩=σ (ψ g x i))/\(wr.heap[p.heap.size+2]?=σ (ξ #[ψ ν 0 0,ψ ν 0 0] 154 (0,0))/\wr.heap[p.heap.size+3]?=σ (ξ #[ι κ 0,ι κ 0] 76 (0,0))))/\δ p.heap.size p wr from by
  have kQ:=aw e.2.1;have e0:b.heap[p.heap.size]?=σ (ξ #[ι κ k] 293 (0,0)):=(e.1.block _ (by omega)).trans t.2.2;have B:b.heap[p.heap.size+1]?=σ (ξ #[ψ c d a,ψ g x i] 154 (0,0)):=(e.1.block _ (by omega)).trans t.2.1;exact⟨⟨cell0 ((n.block _ (by omega)).trans e0) 0,aR ((n.block _ (by omega)).trans B),(n.block _ (by omega)).trans e.2.2,(n.block _ (by omega)).trans e.2.1⟩,o.trans (n.mono o.size)⟩))
 have y:=aH (ah b.heap.size b);obtain⟨c0,D⟩:∃a,(bh x j)[0]?=σ a:=⟨_,gA X⟩;have yu:=ep (aA D);have I:=ak (rO (z.batch.below (o.trans (y.mono o.size)) (ae _)) D);rw[yu]at I;obtain⟨f,M⟩:=nm (min k j.length);have W:(f:Int)=min (k:Int) j.length:=by omega
 have K:=ak (Xq (k:=f) hM z (o.trans (y.mono o.size)) X ac (by omega));have ab:Hid (j.take f=j.take k):=ak (by rw[M];simp);rw[ab.J,W]at K;have HW:=ak E;have HD:=ak y;obtain⟨⟨O,⟨P,Q⟩,N,F⟩,-⟩:=pD.J b.drew y;obtain⟨b3,b4⟩:=aR N;obtain⟨b5,b6⟩:=aR F;have hl:p.heap.size+3<b.drew.heap.size:=aw F;clear t e Y o y D yu z E M N F W;go_in;go_wp2_with fail;rw[<- HW.J];go_cut[] (λl=>∃r f s,l.heap[p.heap.size+2]?=σ (ξ #[ψ c d a,ψ r f s] 154 (0,0))/\l.heap[p.heap.size+3]?=σ (ξ #[ι κ 0,ι κ 0] 76 (0,0))/\iU w l (ψ r f s) (bh x (j.take k))/\δ p.heap.size p l);case first=>
  have hS:b.drew.cell? ⟨p.heap.size,0,ν⟩=σ (ι κ k)/\b.drew.cell? ⟨p.heap.size+1,0,ν⟩=σ (ψ c d a)/\b.drew.cell? ⟨p.heap.size+1,1,ν⟩=σ (ψ g x i):=⟨O,P,Q⟩;go_region_held3 (λl=>l.cell? ⟨p.heap.size,0,ν⟩=σ (ι κ k)/\l.cell? ⟨p.heap.size+1,0,ν⟩=σ (ψ c d a)/\l.cell? ⟨p.heap.size+1,1,ν⟩=σ (ψ g x i)) (first|assumption|(refine⟨?_,?_,?_⟩<;>(repeat' (refine O1 ?_ (by dsimp only;omega)))<;>assumption)) (first
   | (go_at_call 94;(with_reducible refine dQ I.J ?_);rintro G H ⟨rfl,rfl⟩)
   | (go_at_call 156;(with_reducible refine dQ K.J ?_);rintro G C ⟨ad,am,al,rfl,L,V⟩;obtain⟨⟨d0,⟨d1,d2⟩,v,u⟩,Z⟩:=pD.J C (HD.J.trans V);obtain⟨d3,d4⟩:=aR v;obtain⟨d5,d6⟩:=aR u;have f3:=eR v 0;have f4:=eR v 1;have f5:=eR u 0;have f6:=eR u 1;have Ga:C.cell? ⟨p.heap.size,0,ν⟩=σ (ι κ k)/\C.cell? ⟨p.heap.size+1,0,ν⟩=σ (ψ c d a)/\C.cell? ⟨p.heap.size+1,1,ν⟩=σ (ψ g x i):=⟨d0,d1,d2⟩;have aa:=ak v;have NT:=ak u;have UW:=ak Z;have HV:=ak L;clear v u Z L V))
  all_goals(try go_wp2_with fail)
  all_goals go_meet
  all_goals(refine⟨_,_,_,(ay _ _ _ _ (by show p.heap.size+2≠p.heap.size+3;omega)).trans ((ay _ _ _ _ (by show p.heap.size+2≠p.heap.size+3;omega)).trans (aN _ _ 1 _ _ _ (aN _ _ 0 _ _ _ aa.J))),aN _ _ 1 _ _ _ (aN _ _ 0 _ _ _ ((ay _ _ _ _ (by show p.heap.size+3≠p.heap.size+2;omega)).trans ((ay _ _ _ _ (by show p.heap.size+3≠p.heap.size+2;omega)).trans NT.J))),?_,(((UW.J.setCell (by dsimp only;omega) _).setCell (by dsimp only;omega) _).setCell (by dsimp only;omega) _).setCell (by dsimp only;omega) _⟩;intro W5 g1 g2;refine HV.J W5 (ag (by simp[World.setCell]) g1) (λA t e=>(g2 A (by simpa[World.setCell]using t) (λn=>e (.inl n))).trans ?_);exact(ay _ _ _ _ (by dsimp only;omega)).trans ((ay _ _ _ _ (by dsimp only;omega)).trans ((ay _ _ _ _ (by dsimp only;omega)).trans (ay _ _ _ _ (by dsimp only;omega)))))
 case rest=>obtain⟨r,f,s,B,R,T,U⟩:=hcut;obtain⟨r0,r1⟩:=aR B;obtain⟨r2,r3⟩:=aR R;have HE:=ak T;have HL:=ak U;clear B R T U O P Q b3 b4 b5 b6;go_wp2_with fail;(try simp only[Exit.inBlock,Exit.then]);refine aB (v:=_) (by simp[results,results315,go_sem,r0,r1,r2,r3];rfl) rfl ?_;exact⟨_,_,_,rfl,HE.J,HL.J⟩
