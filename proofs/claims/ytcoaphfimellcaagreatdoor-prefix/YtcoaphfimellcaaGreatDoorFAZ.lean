import Derived.Test.YtcoaphfimellcaaGreatDoorFAV
import Derived.Deep.DeepCutAuto
import Derived.Deep.RegionHeld3
set_option maxHeartbeats 0
set_option maxRecDepth 100000
namespace Go.Proofs.YtcoaphfimellcaaGreatDoor
open Go.RowKit
open _root_.Go.Proofs.Tryz
open Option renaming some→σ,none→ν
open Go.IntKind renaming i64→κ
open Go.Obj renaming cells→ξ
open Go.Value renaming int→ι,slice→ψ
variable{w:Nat->Prop}{p:World}{m:Value}{x:Nat}
theorem Vk(a:Nat)(b:List (List aB)):(bh a b).map (λ_=>([]:List aB))=bh a []:=by unfold bh;simp
theorem ZU{g:World}{k:Nat}{t:List (List aB)}(B:∀i,w i->i<p.heap.size)(C:jC w p m (bh x t))(o:Below p.heap.size p g)(E:0<x)(F:x<=1000)(z:k<=t.length):Calls prog 156 #[m,ι κ 0,ι κ k] g λr v=>∃d j c,r=.returned (ψ d j c)/\jC (λi=>w i\/(p.heap.size<=i/\i<g.heap.size)) v (ψ d j c) (bh x (t.take k))/\Below g.heap.size g v:=by
 have G:=C.batch.below o (ae _);by_cases M:k=0
 .subst M;refine(ZT G (by rw[bE];exact F)).mono ?_;rintro r v ⟨Y,us,rfl,n,y,e⟩;obtain⟨d,c,rfl,-,-⟩:=cu n;refine⟨_,_,_,rfl,λaa hs z=>?_,e⟩;rw[lK,<- Vk x t];refine Vj (B:=g.heap.size) ?_ y;refine⟨n.1,?_⟩;rcases n.2 with a|⟨q,K,cur,f,U,u,r⟩
  {exact .inl a};exact .inr ⟨q,K,cur,f,U,(z q (ay u) (λa=>by have:=o.size;rcases a with a|a;have:=B q a;omega;omega)).trans u,r⟩
 refine(QP (a:=0) (b:=k) G (by omega) (λc u=>by rw[eR u];exact z) (by rw[bE];exact F)).mono ?_
 rintro r v ⟨Y,rfl,n,y⟩;have R:=C.apart E (by omega);have e:=n (λs=>w s\/(p.heap.size<=s/\s<g.heap.size)) (λs a=>by have:=o.size;rcases a with a|a;have:=B s a;omega;exact a.2) (by
  obtain⟨Q,Z,e,N⟩:=R;refine⟨λd j c f b=>?_,Z,bz.below e o (ae _),λV c D=>?_⟩
  . rcases b with b|b
    . exact Q d j c f b
    . obtain⟨L,W,I,l,-,T,-⟩:=e.at (by rw[bE];exact E)
      rw[f]at l
      cases l
      simp at b;omega
  . have⟨X,O,A,P⟩:=N V c D
    refine⟨X,O,bz.below A o (ae _),λd j H f b=>?_⟩;rcases b with b|b
    . exact P d j H f b
    . obtain⟨L,W,I,l,-,T,-⟩:=bz.at A (by rw[eR (aA D)];omega)
      rw[f]at l
      cases l
      simp at b;omega)
 rw[uR,oN,o8]at e;obtain⟨d,c,rfl⟩:=e.batch.slice;exact⟨_,_,_,rfl,jC.of e,y⟩
theorem adI{a q:Addr}{b:Value}(d:p.cell? a=σ b)(c:a.block≠q.block):(p.setCell q m).cell? a=σ b:=(cy (w:=p) (az _ _ _ _ c)).trans d
theorem ZV{k:Nat}{j:List (List aB)}(hM:∀z,w z->z<p.heap.size)(y:jC w p m (bh x j))(W:0<x)(ac:x<=1000)(c:Option Addr)(d a:Nat)(wd:Int):Calls prog 315 #[.agg #[ι κ k],.agg #[ψ c d a,m],ι κ wd] p λF G=>∃r f c2,F=.returned (.tuple #[.agg #[ψ c d a,ψ r f c2],.agg #[ι κ 0,ι κ 0]])/\jC w G (ψ r f c2) (bh x (j.take k))/\Below p.heap.size p G:=by
 obtain⟨g,i,rfl⟩:=y.batch.slice;rw[bE]at y ⊢;have⟨b,D⟩:=nm ((((p.alloc (ξ #[ι κ k] 293)).alloc (ξ #[ψ c d a,ψ g x i] 154)).alloc (ξ #[ψ ν 0 0,ψ ν 0 0] 154)).alloc (ξ #[ι κ 0,ι κ 0] 76));have s:=gT p (ξ #[ι κ k] 293) (ξ #[ψ c d a,ψ g x i] 154);have e:=gT ((p.alloc (ξ #[ι κ k] 293)).alloc (ξ #[ψ c d a,ψ g x i] 154)) (ξ #[ψ ν 0 0,ψ ν 0 0] 154) (ξ #[ι κ 0,ι κ 0] 76);have X:((p.alloc (ξ #[ι κ k] 293)).alloc (ξ #[ψ c d a,ψ g x i] 154)).heap.size=p.heap.size+2:=by simp
 rw[X,<- D]at e;have o:Below p.heap.size p b:=s.1.trans (e.1.mono (by omega));have qe:=au (λwr (n:Below b.heap.size b wr)=>(show((wr.cell? ⟨p.heap.size,0,ν⟩=σ (ι κ k))/\(wr.cell? ⟨p.heap.size+1,0,ν⟩=σ (ψ c d a)/\wr.cell? ⟨p.heap.size+1,1,ν⟩=σ (ψ g x i))/\(wr.heap[p.heap.size+2]?=σ (ξ #[ψ ν 0 0,ψ ν 0 0] 154 (0,0))/\wr.heap[p.heap.size+3]?=σ (ξ #[ι κ 0,ι κ 0] 76 (0,0))))/\Below p.heap.size p wr from by
  have lk:=ay e.2.1;have e0:b.heap[p.heap.size]?=σ (ξ #[ι κ k] 293 (0,0)):=(e.1.block _ (by omega)).trans s.2.2;have A:b.heap[p.heap.size+1]?=σ (ξ #[ψ c d a,ψ g x i] 154 (0,0)):=(e.1.block _ (by omega)).trans s.2.1;exact⟨⟨cell0 ((n.block _ (by omega)).trans e0) 0,aS ((n.block _ (by omega)).trans A),(n.block _ (by omega)).trans e.2.2,(n.block _ (by omega)).trans e.2.1⟩,o.trans (n.mono o.size)⟩))
 have v:=aH (ah b.heap.size b);obtain⟨c0,C⟩:∃a,(bh x j)[0]?=σ a:=⟨_,ig W⟩;have H:=eR (aA C);have I:=au (sQ (y.batch.below (o.trans (v.mono o.size)) (ae _)) C);rw[H]at I;have⟨f,U⟩:=nm (min k j.length);have V:(f:Int)=min (k:Int) j.length:=by omega
 have L:=au (ZU (k:=f) hM y (o.trans (v.mono o.size)) W ac (by omega));have ab:Hid (j.take f=j.take k):=au (by rw[U];simp);rw[ab.J,V]at L;have HW:=au D;have HD:=au v;obtain⟨⟨N,⟨O,P⟩,M,E⟩,-⟩:=qe.J b.drew v;have⟨b3,b4⟩:=aS M;have⟨b5,b6⟩:=aS E;have hl:p.heap.size+3<b.drew.heap.size:=ay E;clear s e X o v C H y D U M E V;go_in;go_wp2_with fail;rw[<- HW.J];go_cut[] (λl=>∃r f c2,l.heap[p.heap.size+2]?=σ (ξ #[ψ c d a,ψ r f c2] 154 (0,0))/\l.heap[p.heap.size+3]?=σ (ξ #[ι κ 0,ι κ 0] 76 (0,0))/\jC w l (ψ r f c2) (bh x (j.take k))/\Below p.heap.size p l);case first=>
  have hS:b.drew.cell? ⟨p.heap.size,0,ν⟩=σ (ι κ k)/\b.drew.cell? ⟨p.heap.size+1,0,ν⟩=σ (ψ c d a)/\b.drew.cell? ⟨p.heap.size+1,1,ν⟩=σ (ψ g x i):=⟨N,O,P⟩;go_region_held3 (λl=>l.cell? ⟨p.heap.size,0,ν⟩=σ (ι κ k)/\l.cell? ⟨p.heap.size+1,0,ν⟩=σ (ψ c d a)/\l.cell? ⟨p.heap.size+1,1,ν⟩=σ (ψ g x i)) (first|assumption|(refine⟨?_,?_,?_⟩<;>(repeat' (refine adI ?_ (by dsimp only;omega)))<;>assumption)) (first
   | (go_at_call 94;(with_reducible refine eu I.J ?_);rintro F G ⟨rfl,rfl⟩)
   | (go_at_call 156;(with_reducible refine eu L.J ?_);rintro F B ⟨ad,am,al,rfl,K,Y⟩;have⟨⟨d0,⟨d1,d2⟩,t,u⟩,Z⟩:=qe.J B (HD.J.trans Y);obtain⟨d3,d4⟩:=aS t;obtain⟨d5,d6⟩:=aS u;have f3:=fP t 0;have f4:=fP t 1;have f5:=fP u 0;have f6:=fP u 1;have Hn:B.cell? ⟨p.heap.size,0,ν⟩=σ (ι κ k)/\B.cell? ⟨p.heap.size+1,0,ν⟩=σ (ψ c d a)/\B.cell? ⟨p.heap.size+1,1,ν⟩=σ (ψ g x i):=⟨d0,d1,d2⟩;have aa:=au t;have Qh:=au u;have Xt:=au Z;have HV:=au K;clear t u Z K Y))
  all_goals(try go_wp2_with fail)
  all_goals go_meet
  all_goals refine⟨_,_,_,(az _ _ _ _ (by show p.heap.size+2≠p.heap.size+3;omega)).trans ((az _ _ _ _ (by show p.heap.size+2≠p.heap.size+3;omega)).trans (aQ _ _ 1 _ _ _ (aQ _ _ 0 _ _ _ aa.J))),aQ _ _ 1 _ _ _ (aQ _ _ 0 _ _ _ ((az _ _ _ _ (by show p.heap.size+3≠p.heap.size+2;omega)).trans ((az _ _ _ _ (by show p.heap.size+3≠p.heap.size+2;omega)).trans Qh.J))),?_,(((Xt.J.setCell (by dsimp only;omega) _).setCell (by dsimp only;omega) _).setCell (by dsimp only;omega) _).setCell (by dsimp only;omega) _⟩;intro W5 g1 g2;refine HV.J W5 (ag (by simp[World.setCell]) g1) (λz s e=>(g2 z (by simpa[World.setCell]using s) (λn=>e (.inl n))).trans ?_);exact(az _ _ _ _ (by dsimp only;omega)).trans ((az _ _ _ _ (by dsimp only;omega)).trans ((az _ _ _ _ (by dsimp only;omega)).trans (az _ _ _ _ (by dsimp only;omega))))
 case rest=>obtain⟨r,f,c2,A,Q,R,T⟩:=hcut;have⟨r0,r1⟩:=aS A;have⟨r2,r3⟩:=aS Q;have HE:=au R;have HL:=au T;clear A Q R T N O P b3 b4 b5 b6;go_wp2;(try simp only[Exit.inBlock,Exit.then]);refine aD (v:=_) (by simp[results,results315,go_sem,r0,r1,r2,r3];rfl) rfl ?_;exact⟨_,_,_,rfl,HE.J,HL.J⟩
