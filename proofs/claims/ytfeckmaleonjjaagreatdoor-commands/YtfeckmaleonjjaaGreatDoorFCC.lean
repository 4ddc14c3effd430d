import Derived.Test.YtfeckmaleonjjaaGreatDoorFCB
set_option maxHeartbeats 0
set_option maxRecDepth 100000
namespace Go.Proofs.YtfeckmaleonjjaaGreatDoor
open Go.World renaming cell?→Ξ
open List renaming length→Λ
open Go.RowKit
open _root_.Go.Proofs.Tryz
open Option renaming some→σ
open Go.IntKind renaming i64→κ
open Go.Obj renaming cells→ξ
open Go renaming World→ω,Value→υ
open Go.Value renaming int→ι,string→θ,slice→ψ,pointer→π
variable{w m:ω}{p:Nat}
section
variable {b o:Nat} {ns:Δ cz} {cv rv:υ} {cy:Δ bU} {row:Δ aF}
def abm(b o:Nat)(ns:Δ cz)(cv rv:υ)(cy:Δ bU)(row:Δ aF)(k:Nat):Prop:=∀w,E1 w b o ns cv rv cy row->Calls prog 87 #[π (σ (Ad b o)),cv,rv,ι κ k] w λr w'=>vJ w w' r
theorem Pu(a:ω)(c:Array υ)(d:TypeId)(e:Array υ)(f:TypeId){W:ω}(g:W=(a.alloc (ξ c d)).alloc (ξ e f)):zF a W [(a.heap.size+1,e,f),(a.heap.size,c,d)]:=by have:=((zF.start a).new c d).new e f;rw[show(a.alloc (ξ c d)).heap.size=a.heap.size+1 by simp,<- g]at this;exact this
def E2:Array υ:=#[.bool false,ι κ 0,θ ⟨#[]⟩]
theorem zF.fin{c:Δ Own}{i:Nat}{s t u:υ}{r:TypeId}(d:zF w m c)(n:c[i]?=σ (p,#[s,t,u],r))(a:aF)(l:a.s.size<=1000000000)(e:Int):(((((m.setCell (Ad p 0) (.bool a.bH)).setCell (Ad p 1) (ι κ a.n)).setCell (Ad p 2) (θ a.s)).cell? (Ad p 0)=σ (.bool a.bH))/\((((m.setCell (Ad p 0) (.bool a.bH)).setCell (Ad p 1) (ι κ a.n)).setCell (Ad p 2) (θ a.s)).cell? (Ad p 1)=σ (ι κ a.n))/\((((m.setCell (Ad p 0) (.bool a.bH)).setCell (Ad p 1) (ι κ a.n)).setCell (Ad p 2) (θ a.s)).cell? (Ad p 2)=σ (θ a.s)))/\vJ w (((m.setCell (Ad p 0) (.bool a.bH)).setCell (Ad p 1) (ι κ a.n)).setCell (Ad p 2) (θ a.s)) (.returned (.tuple #[eB a,ι κ e])):=by obtain⟨j,v,k⟩:=d.box n;obtain⟨f,g⟩:=Cy d.lo k j (.bool a.bH) (ι κ a.n) (θ a.s);exact⟨(ni f).1,a,e,rfl,l,g⟩
theorem vJ.alloc{w:ω}{c:Ending}(e:vJ w m c)(i:Obj):vJ w (m.alloc i) c:=by obtain⟨d,j,f,g,a⟩:=e;exact⟨d,j,f,g,a.alloc a.size _⟩
theorem vJ.drew{a:Ending}(d:vJ w m a):vJ w m.drew a:=by obtain⟨c,i,e,f,g⟩:=d;exact⟨c,i,e,f,aP g⟩
theorem XF{l:cz}(N:abm b o ns cv rv cy row l.a)(O:abm b o ns cv rv cy row l.b)(r:E1 w b o ns cv rv cy row):Calls prog 125 #[π (σ (Ad b o)),cv,rv,.agg (rC l)] w λA w'=>vJ w w' A:=by
 have⟨W,y⟩:=nm ((w.alloc (ξ (rC l) 207)).alloc (ξ E2 129));have s:=Pu w _ _ _ _ y;have V:=ak s;have X:=ak (N W (r.aU s.lo (ae _)));have ur:=ak r;have U:=ak O;have C:=ak y;obtain⟨ca,cc,rfl⟩:=r.hc.slice;obtain⟨ra,rc,rfl⟩:=aS.slice r.hr;obtain⟨j,k,-⟩:=s.box (i:=1) rfl;clear N O r y s;unfold rC E2 at C;unfold rC;cases ho:(l.op.toList==[111,114]);all_goals
  go_in;go_wp2_with fail;rw[<- C.J];refine X.J.mono ?_;rintro A w1 ⟨m,t,rfl,z,D⟩;have a:=V.J.call D;obtain⟨j,k,-⟩:=a.box (i:=0) rfl;obtain⟨⟨Z,k1,k2⟩,z0,z1,z2,-⟩:=ni j;obtain⟨R,Dk,-⟩:=a.box (i:=1) rfl;have m4:Ξ w1 (Ad w.heap.size 4)=σ (ι κ l.b):=bB R 4;have u:=a.new #[.bool m.bH,ι κ m.n,θ m.s] 129;have I:=ak u;have B:=ak (U.J _ (ur.J.aU u.lo (ae _)));have T:=ak z;have v:=ak (a.fin (i:=0) rfl m z t);obtain⟨n,c,Y⟩:=m;unfold eB;simp only at B I v ⊢;clear D a j R u z;by_cases hp:0<=t;(case' neg=>obtain rfl|⟨rfl,K,L⟩|⟨rfl,K,L⟩|⟨rfl,K,L⟩:n=true\/(n=false/\(c==0)=true/\(c==1)=false)\/(n=false/\(c==0)=false/\(c==1)=true)\/(n=false/\(c==0)=false/\(c==1)=false):=by cases n<;>simp;omega);all_goals
   go_wp2_with fail
   first
   | (obtain⟨⟨d,e,f⟩,g⟩:=v.J
      refine aE (by simp[results,results125,go_sem,d,e,f,k];rfl) rfl (g.alloc _))
   | (refine B.J.mono ?_
      rintro A w2 ⟨E,q,rfl,Q,M⟩;have a:=I.J.call M;obtain⟨j,k,-⟩:=a.box (i:=1) rfl;obtain⟨⟨Z,k1,k2⟩,z0,z1,z2,-⟩:=ni j;obtain⟨P,tU,-⟩:=a.box (i:=0) rfl;obtain⟨⟨a0,a1,a2⟩,-⟩:=ni P;have x:=ak (λt=>a.fin (i:=1) rfl E Q t);have H:=ak (a.fin (i:=1) rfl ⟨true,c,Y⟩ T.J (-1));obtain⟨p,i,ex⟩:=E;unfold eB;simp only at x H ⊢;clear M a j P Q m4 v;by_cases hq:0<=q
      case' neg=>
       obtain rfl|⟨rfl,F,G⟩|⟨rfl,F,G⟩|⟨rfl,F,G⟩:p=true\/(p=false/\(i==0)=true/\(i==1)=false)\/(p=false/\(i==0)=false/\(i==1)=true)\/(p=false/\(i==0)=false/\(i==1)=false):=by
        cases p<;>simp
        omega
      all_goals
       go_wp2_with fail
       first
       | (obtain⟨⟨d,e,f⟩,g⟩:=H.J
          refine aE (by simp[results,results125,go_sem,d,e,f,k];rfl) rfl (g.alloc _))
       | (obtain⟨⟨d,e,f⟩,g⟩:=x.J q
          refine aE (by simp[results,results125,go_sem,d,e,f,k];rfl) rfl (g.alloc _))
       | (obtain⟨⟨d,e,f⟩,g⟩:=x.J (-1)
          refine aE (by simp[results,results125,go_sem,d,e,f,k];rfl) rfl (g.alloc _)))
end
section
variable {b o:Nat} {ns:Δ cz} {cv rv:υ} {cy:Δ bU} {row:Δ aF}
theorem eval_un{j:cz}(X:ns[p]?=σ j)(K:j.op=yf\/j.op=tD\/j.op=Hy\/j.op=Cx)(T:abm b o ns cv rv cy row j.a)(k:E1 w b o ns cv rv cy row):Calls prog 87 #[π (σ (Ad b o)),cv,rv,ι κ p] w λz w'=>vJ w w' z:=by
 have⟨al,ai,ag,Tv,⟨lg,lb,lk⟩,n0,n1,n2,n3,n4,n5,n6⟩:=k.gp.get X;obtain⟨i,y,fi,aa,b',ac,ad⟩:=j;have⟨W,H⟩:=nm ((w.alloc (ξ E2 129)).alloc (ξ (rC ⟨i,y,fi,aa,b',ac,ad⟩) 207));have R:=Pu w _ _ _ _ H;have N:=ak (T W (k.aU R.lo (ae _)));have D:=ak H;obtain⟨ca,cc,rfl⟩:=k.hc.slice;obtain⟨ra,rc,rfl⟩:=aS.slice k.hr;have uq:=k.len.2;clear T k H X;unfold rC E2 at D;simp only at K n0 n1 n2 n3 n4 n5 n6 D N;have ab:ct i (bs [110,117,109])=false/\ct i (bs [98,111,111,108])=false/\ct i (bs [115,116,114])=false/\ct i (bs [99,111,108])=false/\ct i (bs [97,110,100])=false/\ct i (bs [111,114])=false:=by rcases K with rfl|rfl|rfl|rfl<;>decide
 obtain⟨t1,t2,t3,t4,t5,t6⟩:=ab;rw[<- bX]at t1 t2 t3 t4 t5 t6;go_in;go_wp21;rw[<- D.J];refine N.J.mono ?_;rintro z A ⟨n,x,rfl,I,O⟩;have a:=R.call O;obtain⟨g,m,-⟩:=a.box (i:=1) rfl;obtain⟨⟨Y,Z,k2⟩,z0,z1,z2,-⟩:=ni g;obtain⟨l,Dk,-⟩:=a.box (i:=0) rfl;have m0:Ξ A (Ad (w.heap.size+1) 0)=σ (θ i):=bB l 0;have m1:Ξ A (Ad (w.heap.size+1) 1)=σ (ι κ y):=bB l 1;have G:=ak (a.new #[.bool n.bH,ι κ n.n,θ n.s] 129);have F:=ak (λx=>a.fin (i:=1) rfl n I x);have B:=ak I;obtain⟨s,t,u⟩:=n;unfold eB;simp only at G F B ⊢;clear O a g l I n0 n1 n2 n3 n4 n5 n6 Tv;by_cases hp:0<=x;{go_wp2;obtain⟨⟨c,d,e⟩,f⟩:=F.J x;exact aE (by simp[results,results87,go_sem,c,d,e,m];rfl) rfl (f.alloc _)}
 have M:=ak (λE=>H6 E (A.alloc (ξ #[.bool s,ι κ t,θ u] 129)));have C:=ak (Pq ⟨#[45]⟩ ⟨false,0,⟨#[]⟩⟩ ⟨s,t,u⟩ (A.alloc (ξ #[.bool s,ι κ t,θ u] 129)) (aB _) B.J);unfold eB at M C;simp only at C;rcases K with rfl|rfl|rfl|rfl
 case' inl=>have L:=Dl (op:=yf) [105,115,110,117,108,108] (b:=true) (by decide)
 (case' inr.inl=>have L:=Dl (op:=tD) [105,115,110,117,108,108] (b:=false) (by decide);have u2:=Dl (op:=tD) [110,111,116,110,117,108,108] (b:=true) (by decide));(case' inr.inr.inl=>have L:=Dl (op:=Hy) [105,115,110,117,108,108] (b:=false) (by decide);have u2:=Dl (op:=Hy) [110,111,116,110,117,108,108] (b:=false) (by decide);have u3:=Dl (op:=Hy) [110,111,116] (b:=true) (by decide);cases s);(case' inr.inr.inr=>have L:=Dl (op:=Cx) [105,115,110,117,108,108] (b:=false) (by decide);have u2:=Dl (op:=Cx) [110,111,116,110,117,108,108] (b:=false) (by decide);have u3:=Dl (op:=Cx) [110,111,116] (b:=false) (by decide);have u4:=Dl (op:=Cx) [110,101,103] (b:=true) (by decide));all_goals go_wp21
 all_goals(try(
  (with_reducible refine dM (M.J _) ?_)
  rintro z w2 ⟨rfl,r⟩;have a:=G.J.call r;obtain⟨g,m,-⟩:=a.box (i:=2) rfl;obtain⟨⟨Y,Z,k2⟩,z0,z1,z2,-⟩:=ni g;have v:=ak (λE=>a.fin (i:=2) rfl (iy E) (aB _) (-1));clear r a g;go_wp2;obtain⟨⟨c,d,e⟩,f⟩:=v.J _;exact aE (by simp[results,results87,go_sem,c,d,e];rfl) rfl f))
 rotate_left;{obtain⟨⟨c,d,e⟩,f⟩:=F.J (-1);exact aE (by simp[results,results87,go_sem,c,d,e,m];rfl) rfl (f.alloc _)};(with_reducible refine dM C.J ?_);rintro z w2 ⟨P,kk,rfl,V,r⟩;have a:=G.J.call r;obtain⟨g,m,-⟩:=a.box (i:=2) rfl;obtain⟨⟨Y,Z,k2⟩,z0,z1,z2,-⟩:=ni g;obtain⟨l,Dk,-⟩:=a.box (i:=1) rfl;have m1:Ξ w2 (Ad (w.heap.size+1) 1)=σ (ι κ y):=bB l 1;obtain⟨U,tU,-⟩:=a.box (i:=0) rfl;obtain⟨⟨a0,a1,a2⟩,-⟩:=ni U;have v:=ak (a.fin (i:=2) rfl P (by rw[V];exact aB _) (-1));have Q:=ak (a.fin (i:=2) rfl ⟨s,t,u⟩ B.J y);obtain⟨en,ei,ex⟩:=P;unfold eB;simp only at v Q ⊢;clear r a g l U V;cases kk;{go_wp2;go_region;all_goals (try go_wp2);obtain⟨⟨c,d,e⟩,f⟩:=Q.J;exact aE (by simp[results,results87,go_sem,c,d,e,m];rfl) rfl (f.alloc _).drew};go_wp2;obtain⟨⟨c,d,e⟩,f⟩:=v.J;exact aE (by simp[results,results87,go_sem,c,d,e,m];rfl) rfl (f.alloc _)
end
section
variable {b o:Nat} {ns:Δ cz} {cv rv:υ} {cy:Δ bU} {row:Δ aF}
theorem afl{u:cz}(hx:ns[p]?=σ u)(Y:u.op∈qD)(T:abm b o ns cv rv cy row u.a)(U:abm b o ns cv rv cy row u.b)(l:E1 w b o ns cv rv cy row):Calls prog 87 #[π (σ (Ad b o)),cv,rv,ι κ p] w λt w'=>vJ w w' t:=by
 have⟨ap,ao,an,Tv,⟨lg,lb,lk⟩,n0,n1,n2,n3,n4,n5,n6⟩:=l.gp.get hx;obtain⟨a,A,fi,ac,R,ai,al⟩:=u;have⟨W,V⟩:=nm ((w.alloc (ξ E2 129)).alloc (ξ (rC ⟨a,A,fi,ac,R,ai,al⟩) 207));have y:=Pu w _ _ _ _ V;have C:=ak (XF T U (l.aU y.lo (ae _)));have P:=ak U;have Q:=ak (T W (l.aU y.lo (ae _)));have v:=ak V;obtain⟨ca,cc,rfl⟩:=l.hc.slice;obtain⟨ra,rc,rfl⟩:=aS.slice l.hr;have uq:=l.len.2;unfold rC E2 at v;unfold rC at C;simp only at Y n0 n1 n2 n3 n4 n5 n6 v Q C P;have ad:ct a (bs [110,117,109])=false/\ct a (bs [98,111,111,108])=false/\ct a (bs [115,116,114])=false/\ct a (bs [99,111,108])=false/\ct a (bs [105,115,110,117,108,108])=false/\ct a (bs [110,111,116,110,117,108,108])=false/\ct a (bs [110,111,116])=false/\ct a (bs [110,101,103])=false:=(by have:(qD.all λa=>!ct a (bs [110,117,109])&&!ct a (bs [98,111,111,108])&&!ct a (bs [115,116,114])&&!ct a (bs [99,111,108])&&!ct a (bs [105,115,110,117,108,108])&&!ct a (bs [110,111,116,110,117,108,108])&&!ct a (bs [110,111,116])&&!ct a (bs [110,101,103]))=true:=(by decide);simpa[and_assoc]using gQ.1 this a Y);obtain⟨t1,t2,t3,t4,t7,t8,t9,am⟩:=ad;rw[<- bX]at t1 t2 t3 t4 t7 t8 t9 am;by_cases nX:(a.toList==[97,110,100])=true\/(a.toList==[111,114])=true;{obtain t5|⟨t5,t6⟩:(a.toList==[97,110,100])=true\/(a.toList==[97,110,100])=false/\(a.toList==[111,114])=true:=(by cases h5:(a.toList==[97,110,100])<;>simp_all);all_goals go_in;go_wp21;rw[<- v.J];refine C.J.mono ?_;rintro t B ⟨k,j,rfl,z,E⟩;have c:=y.call E;obtain⟨m,r,-⟩:=c.box (i:=1) rfl;obtain⟨⟨G,H,I⟩,K,L,M,-⟩:=ni m;have x:=ak (c.fin (i:=1) rfl k z j);unfold eB;go_wp2;obtain⟨⟨d,e,f⟩,i⟩:=x.J;exact aE (by simp[results,results87,go_sem,d,e,f];rfl) rfl i};have⟨t5,t6⟩:(a.toList==[97,110,100])=false/\(a.toList==[111,114])=false:=by simpa using nX
 go_in;go_wp21;rw[<- v.J];refine Q.J.mono ?_;rintro t B ⟨k,j,rfl,z,E⟩;have c:=y.call E;obtain⟨m,r,-⟩:=c.box (i:=1) rfl;obtain⟨⟨G,H,I⟩,K,L,M,-⟩:=ni m;obtain⟨n,N,-⟩:=c.box (i:=0) rfl;have m0:Ξ B (Ad (w.heap.size+1) 0)=σ (θ a):=bB n 0;have m4:Ξ B (Ad (w.heap.size+1) 4)=σ (ι κ R):=bB n 4;have m1:Ξ B (Ad (w.heap.size+1) 1)=σ (ι κ A):=bB n 1;have F:=ak (c.new #[.bool k.bH,ι κ k.n,θ k.s] 129);have x:=ak (λj=>c.fin (i:=1) rfl k z j);have O:=ak z;obtain⟨cn,ci,cx⟩:=k;unfold eB;simp only at F x O ⊢;have ab:=(P.J _ (l.aU F.J.lo (ae _)));by_cases hp:0<=j;{go_wp2;obtain⟨⟨d,e,f⟩,i⟩:=x.J j;exact aE (by simp[results,results87,go_sem,d,e,f,r];rfl) rfl (i.alloc _)};go_wp21;refine ab.mono ?_;rintro t w2 ⟨g,q,rfl,X,cW⟩;have c:=F.J.call cW;obtain⟨m,r,-⟩:=c.box (i:=2) rfl;obtain⟨⟨G,H,I⟩,K,L,M,-⟩:=ni m;obtain⟨n,N,-⟩:=c.box (i:=1) rfl;have m0:Ξ w2 (Ad (w.heap.size+1) 0)=σ (θ a):=bB n 0;obtain⟨ha,tU,-⟩:=c.box (i:=0) rfl;obtain⟨⟨a0,a1,a2⟩,-⟩:=ni ha;have Z:=ak (c.new #[.bool g.bH,ι κ g.n,θ g.s] 129);have s:=ak (c.fin (i:=2) rfl g X q);have D:=ak (Pq a ⟨cn,ci,cx⟩ g (w2.alloc (ξ #[.bool g.bH,ι κ g.n,θ g.s] 129)) O.J X);obtain⟨en,ei,ex⟩:=g;unfold eB at D ⊢;simp only at s Z D ⊢;by_cases hq:0<=q;{go_wp2;obtain⟨⟨d,e,f⟩,i⟩:=s.J;exact aE (by simp[results,results87,go_sem,d,e,f,r];rfl) rfl (i.alloc _)};go_wp21;refine D.J.mono ?_;rintro t w3 ⟨aa,kk,rfl,ag,gO⟩;have c:=Z.J.call gO;obtain⟨m,r,-⟩:=c.box (i:=3) rfl;obtain⟨⟨G,H,I⟩,K,L,M,-⟩:=ni m;obtain⟨n,N,-⟩:=c.box (i:=2) rfl;have m1:Ξ w3 (Ad (w.heap.size+1) 1)=σ (ι κ A):=bB n 1;have s:=ak (λj=>c.fin (i:=3) rfl aa (by rw[ag];exact aB _) j);obtain⟨vn,vi,vx⟩:=aa;unfold eB;simp only at s ⊢;cases kk;{go_wp2;go_region;all_goals (try go_wp2);obtain⟨⟨d,e,f⟩,i⟩:=s.J A;exact aE (by simp[results,results87,go_sem,d,e,f,r];rfl) rfl (i.alloc _).drew};go_wp2;obtain⟨⟨d,e,f⟩,i⟩:=s.J (-1);exact aE (by simp[results,results87,go_sem,d,e,f,r];rfl) rfl (i.alloc _)
end
section
variable {b o:Nat} {ns:Δ cz} {cv rv:υ} {cy:Δ bU} {row:Δ aF}
def rE(cy:Δ bU)(e:Ex):Prop:=∃k,dp cy e=.inl k
theorem tE:∀f:Ex,tS f->Ks f->rE cy f->att b o ns cv rv cy row f
 |.num _,_,_,_,_,_,⟨_,hx,ho,_⟩,d=>eval_const hx (.inl ho) (λf=>absurd (ho.symm.trans f) (by decide)) d
 |.bool _,_,_,_,_,_,⟨_,hx,ho,_⟩,d=>eval_const hx (.inr (.inl ho)) (λf=>absurd (ho.symm.trans f) (by decide)) d
 |.str _,_,hz,_,_,_,⟨_,hx,ho,hs⟩,d=>eval_const hx (.inr (.inr ho)) (λ_=>hs ▸ hz) d
 |.junk,_,_,_,_,_,hr,_=>hr.elim
 |.col s a,_,_,c,_,_,⟨x,hx,ho,hs,_⟩,d=>by
   have⟨g,c⟩:=c;simp only[dp]at c;split at c
   . rename_i k i
     have⟨l,j⟩:=Pm i;exact abj hx ho (hs ▸ j) d
   . cases c
 |.neg a x,hw,hz,c,_,_,⟨_,hx,ho,_,hr⟩,d=>by
   have⟨g,c⟩:=c;simp only[dp]at c;split at c
   . cases c
   . exact eval_un hx (.inr (.inr (.inr ho))) (λe d=>tE x hw hz ⟨_,‹_›⟩ _ e hr d) d
 |.not a x,hw,hz,c,_,_,⟨_,hx,ho,_,hr⟩,d=>by
   have⟨g,c⟩:=c;simp only[dp]at c;split at c
   . cases c
   . exact eval_un hx (.inr (.inr (.inl ho))) (λe d=>tE x hw hz ⟨_,‹_›⟩ _ e hr d) d
 |.lA no a x,hw,hz,c,_,_,⟨_,hx,ho,_,hr⟩,d=>by
   have⟨g,c⟩:=c;simp only[dp]at c;split at c
   . cases c
   . exact eval_un hx (by cases no;exact .inl ho;exact .inr (.inl ho)) (λe d=>tE x hw hz ⟨_,‹_›⟩ _ e hr d) d
 |.two op a x y,hw,hz,c,_,_,⟨_,hx,ho,_,hr,hr2⟩,d=>by
   have⟨g,c⟩:=c;simp only[dp]at c;split at c
   . cases c
   . split at c
     . cases c
     . exact afl hx (ho ▸ hw.1) (λe d=>tE x hw.2.1 hz.1 ⟨_,‹_›⟩ _ e hr d) (λe d=>tE y hw.2.2 hz.2 ⟨_,‹_›⟩ _ e hr2 d) d
end
section
variable {b o:Nat} {ns:Δ cz} {cv nv ev mv dv:υ} {cy:Δ bU} {st:dz}
theorem Tz{g:ω}(l:Tw g b o ns cv cy)(v:Kz g ns st nv ev mv dv)(L:Λ st.bJ=Λ st.fG)(qY:∀e∈st.bJ,e.1.size<=1000000000):Calls prog 122 #[π (σ (Ad b o)),cv,.agg (oB st nv ev mv dv)] g λQ w'=>V2 g w' Q cv λr=>Λ r=Λ st.fG/\(∀a∈st.fG,rE cy a.1)/\Small r:=by
 have⟨i0,px,lB,ll,kV⟩:=gq Tryz.yi;have⟨W,K⟩:=nm (g.alloc (ξ (oB st nv ev mv dv) 95));have s:=(zF.start g).new (oB st nv ev mv dv) 95;rw[<- K]at s;have V:=ak K;have ur:=(l.aU s.lo (ae _));have G:=(v.aU s.lo (ae _));obtain⟨ca,cc,rfl⟩:=l.hc.slice;obtain⟨na,P,rfl⟩:=aS.slice v.bJ;have⟨x,O,N,BS⟩:=v.fG;have HK:=(aS.aU N s.lo (ae _));obtain⟨ea,ec,rfl⟩:=aS.slice N;obtain⟨am,av,-,-⟩:=v.len;have R:Λ x=Λ st.bJ:=by rw[O,L]
 have F:=ak (And.intro O L);have Y:=ak R;clear l v K N O L R;unfold oB at V;unfold oB;go_in;go_wp2;rw[<- V.J];go_loopw[9,10] (λap r wr=>∃(d:Nat) (c:Δ bU),d<=Λ st.bJ/\Hid (Λ c=d/\Small c)/\r=ι κ d/\Hid (wr.ownsRow W.heap.size 152 2 ap (Λ c) (c.flatMap fP))/\Hid (∀(f:Nat) (a:Ex×Nat),f<d->st.fG[f]?=σ a->rE cy a.1)/\Hid (Below W.heap.size W wr)) (λ_ r _=>Λ st.bJ - (intOf r).toNat);case atStart=>exact⟨0,[],aB _,ak ⟨rfl,λab l=>by cases l⟩,rfl,ak ⟨rfl,.inl ⟨rfl,rfl⟩⟩,ak (λf a C=>by omega),ak (aj _ _)⟩
 case round=>
  obtain⟨d,c,hi,t,rfl,z,U,p⟩:=hrel;have i:=s.call p.J;obtain⟨j,oY,-⟩:=i.box (i:=0) rfl;have q4:Ξ wr (Ad g.heap.size 4)=σ (ψ na (Λ st.bJ) P):=bB j 4;have q5:Ξ wr (Ad g.heap.size 5)=σ (ψ ea (Λ x) ec):=bB j 5;have ho:=z.J;obtain⟨oa,ai,rfl,-,-⟩:=cR ho;by_cases A:d<Λ st.bJ
  .have gY:=aX.2 A;have Ct:(d:Int)<Λ x:=(by rw[Y.J];omega);have⟨e,D⟩:=l9 A;have V3:=(A6 st.bJ _ d e wr (aS.aU G.bJ p.J (ae _)) D am);go_wp21;refine V3.mono ?_;rintro Q y ⟨rfl,u⟩;have i:=i.call u;obtain⟨j,KB,-⟩:=i.box (i:=0) rfl;have r4:Ξ y (Ad g.heap.size 4)=σ (ψ na (Λ st.bJ) P):=bB j 4;have r5:Ξ y (Ad g.heap.size 5)=σ (ψ ea (Λ x) ec):=bB j 5;have⟨I,al,cp,m,y0,y1⟩:=(show rB y _ _ from aS.aU G.bJ (p.J.trans (u.mono p.J.size)) (ae _)).get D;cases m;have E:=(p.J.trans (u.mono p.J.size));have ad:=(cO z.J u);have⟨ao,ht⟩:=nm ((st.bJ.take d).any λan=>ct an.1 e.1);rw[<- ht];clear u j q4 q5 ht;cases ao
   .obtain⟨w,TA⟩:∃w,x[d]?=σ w:=⟨_,af (by rw[Y.J];exact A)⟩;obtain⟨a,aa⟩:∃a,st.fG[d]?=σ a:=⟨_,af (by rw[<- F.J.2];exact A)⟩;have⟨g2,d2,aC,m,x0⟩:=lR.get (show lR y _ _ from aS.aU HK E (ae _)) TA;cases m;have X:=BS d w a TA aa;have Dn:=(uT (b:=b) (o:=o) (cy:=cy) a.1 X.1 X.2.1 y (ur.aU E (ae _)));go_wp21;refine Dn.mono ?_;rintro Q n ⟨rfl,H⟩;have i:=i.call H;obtain⟨j,ar,-⟩:=i.box (i:=0) rfl;have s4:Ξ n (Ad g.heap.size 4)=σ (ψ (σ (Ad I al)) (Λ st.bJ) P):=bB j 4;have B:=(E.trans (H.mono E.size));have⟨g',d',ax,m,aT,a0⟩:=(show rB n _ _ from aS.aU G.bJ B (ae _)).get D;cases m;have LG:=(cO ad H);cases TB:dp cy a.1 with
    |inr q=>have hq:((q.1:Int) != 0)=true:=(by rw[dZ];have:=kG TB;omega);have HQ:=(kG TB);unfold DF;go_wp2;go_ret3;exact⟨_,q.1,q.2,rfl,⟨_,_,_,rfl⟩,λl=>absurd l HQ,i.lo⟩
    |inl k=>
     have Pw:Hid (rE cy a.1):=ak ⟨k,TB⟩;unfold DF;have T:=(LG.alloc (ξ #[θ e.1,ι κ k] 152));have vB:=(World.news_of_block (w:=n.alloc (ξ #[θ e.1,ι κ k] 152)) (B:=n.heap.size) (az n (ξ #[θ e.1,ι κ k] 152)));have XG:Hid (Λ c+1<=maxLen):=ak (by rw[t.J.1];unfold maxLen;omega);have ac:Hid ((Λ c+1)*24<=140737488355328):=ak (by rw[t.J.1];omega);have Z:Hid (W.heap.size<=(n.alloc (ξ #[θ e.1,ι κ k] 152)).heap.size):=ak (by have:=B.size;simp;omega);go_wp2_with(at_builtin;refine ef _ rfl _ _ 139 rfl W.heap.size 152 i0 _ 2 24 underlying139 px lB ll kV rfl (by decide) (ψ oa (Λ c) ai) (Λ c) (c.flatMap fP) rfl T (Ad n.heap.size 0) 1 1 (fP (e.1,k)) rfl rfl vB (by simp[fP,Value.oneCell']) XG.J ac.J Z.J ?_);intro v' w3 oN kH _;have TC:Hid (w3.ownsRow W.heap.size 152 2 v' (c++[(e.1,k)]).length ((c++[(e.1,k)]).flatMap fP)):=ak (by rw[au,cX,lP];exact oN);have r7:Hid (Below W.heap.size W w3):=ak (((B.alloc B.size _)).grown kH Z.J (λw j=>(T.lt w j).1));have KC:Hid ((c++[(e.1,k)]).length=d+1/\Small (c++[(e.1,k)])):=ak ⟨by rw[au,t.J.1];rfl,t.J.2.snoc (qY e (aq D))⟩;have ag:Hid (∀(f:Nat) (a:Ex×Nat),f<d+1->st.fG[f]?=σ a->rE cy a.1):=ak (λf ab C M=>by
      by_cases EV:f=d
      . subst EV;rw[aa]at M;cases M;exact Pw.J
      . exact U.J f ab (by omega) M)
     go_wp2;exact⟨⟨d+1,_,by omega,KC,by go_num,TC,ag,r7⟩,by simp[intOf];omega⟩
   go_wp2;go_quiet(fail);go_wp2;go_ret3;exact⟨_,6,e.2,rfl,⟨_,_,_,rfl⟩,λl=>(by cases l),below_drewN i.lo _⟩
  have HE:Hid (Λ c=Λ st.fG/\(∀a∈st.fG,rE cy a.1)/\Small c):=ak ⟨by rw[t.J.1,<- F.J.2];omega,λa m=>by
   have⟨f,C⟩:=cB m;exact U.J f a (by have:=(ah.1 C).1;have:=F.J.2;omega) C,t.J.2⟩
  go_wp2;go_ret3;exact⟨_,0,0,rfl,⟨_,_,_,rfl⟩,λ_=>⟨c,aS.dE z.J,HE.J,.inr λI hg=>ay s.lo.size (z.J.lt I hg).1⟩,i.lo⟩
end
