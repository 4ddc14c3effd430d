import Derived.Test.YtcoaphfimellcaaGreatDoorQBR
set_option maxHeartbeats 0
set_option maxRecDepth 100000
namespace Go.Proofs.YtcoaphfimellcaaGreatDoor
open Go.RowKit
open _root_.Go.Proofs.Tryz
open Option renaming some→σ,none→ν
open Go.IntKind renaming i64→κ
open Go.Ending renaming returned→τ
open Go.Obj renaming cells→ξ
open Go renaming World→ω,Value→υ
open Go.RowKit renaming Below→δ
open Go.Value renaming int→ι,string→θ,agg→χ
section
open Go.Maps
theorem adg{a b:o8}(e:a.bud<=b.bud):a.opt.bud<=b.opt.bud:=by obtain⟨f,g,i,j,k,c⟩:=a;obtain⟨l,m,n,o,p,d⟩:=b;simp only at e;show(min (max c 0) 4096).toNat<=(min (max d 0) 4096).toNat;omega
theorem Ug{e:ω}{f:o8}{ops:List OpS}{sv:υ}{o query:ByteArray}{more:Int}(N:rU e)(hs:bu e 3 sv ops.length (ops.flatMap opL))(hl:ops.length<=9000000000000000000)(hu:∀b2∈ops,b2.2.1.size<=maxLen)(H:o.size<=maxLen) :
 Calls prog 6 #[f.val,sv,θ o,θ query,ι κ more] e λk w'=>k=τ (.bool true)/\δ e.heap.size e w':=by
 obtain⟨va,dq,rfl⟩:=bu.slice hs;obtain⟨l,i,n,j,push,p⟩:=f;have K:o8.val ⟨l,i,n,j,push,p⟩=χ #[ι κ l,ι κ i,ι κ n,.bool j,.bool push,ι κ p]:=rfl;have an:o8.val ⟨l,i,n,j,push,more⟩=χ #[ι κ l,ι κ i,ι κ n,.bool j,.bool push,ι κ more]:=rfl;obtain⟨f,hf⟩:=nm (⟨l,i,n,j,push,p⟩:o8);obtain⟨B,wK⟩:=nm (⟨l,i,n,j,push,more⟩:o8);rw[<- hf]at K ⊢;rw[<- wK]at an;have bo:Hid (p<=more->f.opt.bud<=B.opt.bud):=ak (λh=>adg (by rw[hf,wK];exact h));obtain⟨bw,M⟩:=nm (e.alloc (ξ #[ι κ l,ι κ i,ι κ n,.bool j,.bool push,ι κ p] 23));have ia:=oJ M;have Zl:bw.heap[e.heap.size]?=σ (ξ #[ι κ l,ι κ i,ι κ n,.bool j,.bool push,ι κ p] 23 (0,0)):=by rw[M];exact au e _
 have Fj:=ak (ED f (N.on (ia.mono N.size)));have g:=ak N;have HS:=ak hs;have HU:=ak hu;have qg:=ak ia;have HW:=ak M;have bi:=ak Zl;have bY:=aw Zl;rw[K]at Fj ⊢;have bd:=ak K;have be:=ak an;clear N hs hu ia M Zl hf K an wK;go_in;go_wp2_with fail;rw[<- HW.J];refine Fj.J.mono ?_;rintro k w1 ⟨rfl,s⟩;have u:=qg.J.trans (s.mono qg.J.size);have Q:=(s.block _ bY).trans bi.J;obtain⟨j0,j1,j2,j3,j4,j5⟩:=pI Q;have EO:=aw Q;have L:=ak u;have qW:=ak Q;clear s u Q;by_cases b9:more<p;{go_wp2_with fail;go_ret;exact⟨rfl,L.J.alloc L.J.size _⟩}
 obtain⟨W1,T⟩:=nm (w1.alloc (ξ #[ι κ l,ι κ i,ι κ n,.bool j,.bool push,ι κ more] 23))
 have ab:=oJ T;have u:=L.J.trans (ab.mono L.J.size);have X:=g.J.on (u.mono g.J.size);have a9:=(ab.block _ EO).trans qW.J;have ba:W1.heap[w1.heap.size]?=σ (ξ #[ι κ l,ι κ i,ι κ n,.bool j,.bool push,ι κ more] 23 (0,0)):=by rw[T];exact au w1 _
 have bg:=ak (uQ query W1 X.laid (by have:=X.size;omega));have IL:=ak u;have ax:=ak a9;have aC:=ak ba;have B6:=ak T;have bb:=bo.J (by omega);have bm:=ak bb;clear ab u X a9 ba T bb;go_wp2_with fail;rw[<- B6.J];refine bg.J.mono ?_;rintro k w2 ⟨rfl,r⟩;have D:=IL.J.trans (r.mono IL.J.size);have P:=ak D
 cases hq:Gs query with
 |false=>
   clear r D j0 j1 j2 j3 j4 j5;go_wp2_with fail;go_ret;exact⟨rfl,P.J⟩
 |true=>
   have ac:=(r.block _ (aw ax.J)).trans ax.J;have a4:=(r.block _ (aw aC.J)).trans aC.J;have sC:=g.J.on (D.mono g.J.size);have Y7:=ak (B1 (f:=f) sC (bu.below HS.J D (ae _)) hl HU.J (X0:=λ_=>False) (λb d=>d.elim));rw[bd.J]at Y7;obtain⟨i0,i1,i2,i3,i4,i5⟩:=pI ac;have b7:=aw ac;have a5:=ak a4;clear r D ac a4 sC j0 j1 j2 j3 j4 j5;go_wp2_with fail;refine Y7.J.mono ?_;rintro k w3 ⟨b1,X3,M3,rfl,qS,-,-,O,fI⟩;have R:=P.J.trans (fI.mono P.J.size);have Qx:=g.J.on (R.mono g.J.size);have ad:=(fI.block _ (aw a5.J)).trans a5.J;obtain⟨k0,k1,k2,k3,k4,k5⟩:=pI ad;have b8:=aw ad;have a1:=ak (B1 (f:=B) Qx (bu.below HS.J R (ae _)) hl HU.J (X0:=X3) qS.oS);rw[be.J]at a1;have w:=ak qS;have Jk:=ak (λb d=>(show e.heap.size<=b from ag P.J.size (O b d)));have nF:=ak R;clear qS O fI R Qx ad i0 i1 i2 i3 i4 i5;go_wp2_with fail;refine a1.J.mono ?_;rintro k w4 ⟨p2,X4,M4,rfl,E,DU,EJ,aq,C⟩;obtain⟨st,je⟩:=nm (xZ ⟨[],[]⟩ ops);rw[<- je]at E w;have U:=nF.J.trans (C.mono nF.J.size);have QK:=g.J.on (U.mono g.J.size);have y:One f.opt w4 b1 X4 M3 st:=w.J.stays C.size (λb h1 _=>C.block b h1) (λb d=>C.block b (w.J.oS b (w.J.sub b d))) DU EJ E.oS;have a6:∀b,M3 b->¬M4 b:=λb h1 h2=>by
    have:=w.J.oS b (w.J.sub b h1);have:=aq b h2;omega
   have HA:=ak (pj y QK (user:=o) (text:=query) H);rw[tY (bud:=f.opt.bud) (st:=st) (user:=o) hq]at HA;have a2:=ak (xH (bud:=f.opt.bud) y.told hq H);have a3:=ak (xH (bud:=B.opt.bud) y.told hq H);have Qq:=ak y;have xQ:=ak E;have HD:=ak a6;have bl:=ak (λb d=>(show e.heap.size<=b from ag nF.J.size (aq b d)));have zO:=ak U;clear E DU EJ aq C je U QK y a6 k0 k1 k2 k3 k4 k5;go_wp2_with fail;refine HA.J.mono ?_;rintro k m ⟨rfl,-,X5,M5,I⟩;obtain⟨a,t⟩:=nm ((sF f.opt.bud st o query).1);rw[<- t]at a2 ⊢;have Hk:=ak t;obtain⟨V,-,b0,ap,-,-⟩:=wA Jk.J zO.J.size I (ξ #[θ ⟨a.1.toArray⟩,ι κ (a.2.1:Nat),ι κ (a.2.2:Nat)] 30);have Y:=au m (ξ #[θ ⟨a.1.toArray⟩,ι κ (a.2.1:Nat),ι κ (a.2.2:Nat)] 30);have nU:=(xQ.J.beside I Qq.J.sub HD.J).wide ((ah m.heap.size m).alloc (ae _) (ξ #[θ ⟨a.1.toArray⟩,ι κ (a.2.1:Nat),ι κ (a.2.2:Nat)] 30));have a8:¬M4 m.heap.size:=λO=>by
    have:=xQ.J.oS _ (xQ.J.sub _ O);have:=I.keep.size;omega
   obtain⟨W5,Z⟩:=nm (m.alloc (ξ #[θ ⟨a.1.toArray⟩,ι κ (a.2.1:Nat),ι κ (a.2.2:Nat)] 30));rw[<- Z]at V ap Y nU;have yk:=ak (zO.J.trans V);have RM:=g.J.on (yk.J.mono g.J.size);have ar:=ak (pj nU RM (user:=o) (text:=query) H);rw[tY (bud:=B.opt.bud) (st:=st) (user:=o) hq]at ar;have av:=ak Y;have a0:=ak a8;have bt:=ak Z;unfold um;clear I t V b0 Y nU a8 Z RM;go_wp2_with fail;rw[<- bt.J];refine ar.J.mono ?_;rintro k v ⟨rfl,-,X6,M6,Z0⟩;obtain⟨c,al⟩:=nm ((sF B.opt.bud st o query).1);rw[<- al]at a3 ⊢;obtain⟨JX,-,-,-,-,Uc⟩:=wA bl.J yk.J.size Z0 (ξ #[θ ⟨c.1.toArray⟩,ι κ (c.2.1:Nat),ι κ (c.2.2:Nat)] 30);have F:=au v (ξ #[θ ⟨c.1.toArray⟩,ι κ (c.2.1:Nat),ι κ (c.2.2:Nat)] 30);have am:=Qj (st:=st) (user:=o) bm.J hq;rw[<- Hk.J,<- al]at am;have ao:=(Z0.keep.block m.heap.size ⟨ap,a0.J⟩).trans av.J;obtain⟨x0,x1,x2⟩:=aY ao;have ca:=aw ao;have G:=(Uc _ ap a0.J).1.trans av.J;obtain⟨W6,Vi⟩:=nm (v.alloc (ξ #[θ ⟨c.1.toArray⟩,ι κ (c.2.1:Nat),ι κ (c.2.2:Nat)] 30));rw[<- Vi]at JX F G;have FD:=ak (yk.J.trans JX);have yl:=ak (λwr (d:δ W6.heap.size W6 wr)=>(show(wr.cell? ⟨m.heap.size,0,ν⟩=σ (θ ⟨a.1.toArray⟩)/\wr.cell? ⟨m.heap.size,1,ν⟩=σ (ι κ (a.2.1:Nat))/\wr.cell? ⟨m.heap.size,2,ν⟩=σ (ι κ (a.2.2:Nat)))/\(wr.cell? ⟨v.heap.size,0,ν⟩=σ (θ ⟨c.1.toArray⟩)/\wr.cell? ⟨v.heap.size,1,ν⟩=σ (ι κ (c.2.1:Nat))/\wr.cell? ⟨v.heap.size,2,ν⟩=σ (ι κ (c.2.2:Nat)))/\m.heap.size<wr.heap.size/\v.heap.size<wr.heap.size/\δ e.heap.size e wr from by
    have t:=(d.block _ (aw G)).trans G;have hB:=(d.block _ (aw F)).trans F;exact⟨aY t,aY hB,aw t,aw hB,FD.J.trans (d.mono FD.J.size)⟩))
   have Ze:=ak (Dq a2.J W6);have bc:=ak am;have bv:=ak Vi;unfold um at Ze ⊢;clear Z0 al JX F Uc G Vi ao am;go_wp2_with fail;rw[<- bv.J];refine Ze.J.mono ?_;rintro k w7 ⟨rfl,Nh⟩;obtain⟨⟨b3,b4,b5⟩,⟨y0,y1,y2⟩,l5,l6,Er⟩:=yl.J w7 Nh;have Te:=ak (Dq a3.J w7);have Rq:=ak Nh;unfold um at Te;clear Nh Er x0 x1 x2;go_wp2_with fail;refine Te.J.mono ?_;rintro k w8 ⟨rfl,AJ⟩;have YH:=Rq.J.trans (AJ.mono Rq.J.size);obtain⟨⟨x0,x1,x2⟩,⟨cd,b6,ce⟩,cb,cc,Vs⟩:=yl.J w8 YH;have x:=ak Vs;obtain⟨z,A⟩:=bc.J;clear AJ YH Vs b3 b4 b5 y0 y1 y2;by_cases W:a.2.1=10
   . rw[W]at x1
     rcases A W with d|d
     . have s:(((c.2.1:Nat):Int) != 10)=true:=by rw[jA];omega
       clear z A;go_wp2_with fail
       (try go_quiet(fail))
       (try go_wp2_with fail)
       go_ret;exact⟨rV (by first|rfl|simp_all),by repeat(first|exact x.J|refine below_drewN ?_ _|refine aH ?_)⟩
     . have s:((c.2.2:Nat):Int)>=(a.2.2:Nat):=by omega
       by_cases bx:c.2.1=10
       . rw[bx]at b6
         clear z A;go_wp2_with fail
         (try go_quiet(fail))
         (try go_wp2_with fail)
         go_ret;exact⟨rV (by first|rfl|exact bK s|simp_all),by repeat(first|exact x.J|refine below_drewN ?_ _|refine aH ?_)⟩
       . have r:(((c.2.1:Nat):Int) != 10)=true:=by rw[jA];omega
         clear z A;go_wp2_with fail
         (try go_quiet(fail))
         (try go_wp2_with fail)
         go_ret;exact⟨rV (by first|rfl|simp_all),by repeat(first|exact x.J|refine below_drewN ?_ _|refine aH ?_)⟩
   . have bS:=z W
     subst bS;have ZY:(((a.2.1:Nat):Int) != 10)=true:=by rw[jA];omega
     have aa:=ak (Dp a a w8);rw[bK rfl]at aa;unfold um at aa;clear z A;go_wp2_with fail;refine aa.J.mono ?_;rintro k w9 ⟨rfl,Yq⟩;have FC:=ak (x.J.trans (Yq.mono x.J.size));clear Yq;go_wp2_with fail;go_ret;exact⟨rfl,FC.J⟩
end
