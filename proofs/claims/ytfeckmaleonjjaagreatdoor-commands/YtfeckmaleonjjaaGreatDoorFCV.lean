import Derived.Test.YtfeckmaleonjjaaGreatDoorFCP
import Derived.Test.YtfeckmaleonjjaaGreatDoorFCQ
set_option maxHeartbeats 0
set_option maxRecDepth 100000
namespace Go.Proofs.YtfeckmaleonjjaaGreatDoor
open Go.World renaming cell?→Ξ
open Go.Value renaming ownBlock→Ω
open List renaming length→Λ
open Go.RowKit
open _root_.Go.Proofs.Tryz
open Option renaming some→σ,none→ν
open Go.IntKind renaming i64→κ
open Go.Ending renaming returned→τ
open Go.Obj renaming cells→ξ
open Go renaming World→ω,Value→υ
open Go.Value renaming int→ι,string→θ,slice→ψ,pointer→π
variable{m u y z d P M V N L I:υ}{s:Γ}{g:TypeId}{a:Nat}{o:ω}
theorem Tryz.TU:(prog.info? 155).map (λi=>(i.zero,i.size,i.bytes))=σ (σ (.agg #[θ ⟨#[]⟩,θ ⟨#[]⟩,ψ ν 0 0,θ ⟨#[]⟩,θ ⟨#[]⟩,ι κ 0,θ ⟨#[]⟩,ι κ 0,ψ ν 0 0,ψ ν 0 0,ψ ν 0 0,ι κ 0,ψ ν 0 0,ψ ν 0 0]),14,248):=by kernel_rfl
theorem Ih{α:Type}{l:Δ α}{i k:Nat}{a:α}(d:l[i]?=σ a):(l.take (i+1)).eraseIdx k=(l.take i).eraseIdx k++(if i=k then[]else[a]):=by
 have⟨o,s⟩:=ah.1 d;have g:(l.take i).length=i:=by rw[bZ];omega
 rw[bS,d];rcases vZ k i with m|rfl|m
 {rw[List.eraseIdx_append_of_lt_length (by omega),aH (by omega)];rfl};{rw[ri (by omega),g,dQ,aN rfl,cM,po (l:=List.take k l) (by omega)];simp};rw[ri (by omega),g,po (l:=List.take i l) (by omega),aH (by omega),po (by simp;omega)];rfl
section
variable {X:Nat->Prop} {w:ω} {p bz:Nat} {ts:Δ gP} {gs:Δ iz} {c:rF}
theorem an8{W:ω}{v:υ}{a:iz}{i:Nat}(Y:aS W 14 v (Λ gs) (gs.flatMap zZ))(hi:gs[i]?=σ a)(M:DGr W ts a):∃b d cap o s O u H D y I m z K E A L F C G,v=ψ (σ (Ad b d)) (Λ gs) cap/\b<W.heap.size/\zZ a=[θ a.uz,θ a.tj,ψ o (Λ a.cy) s,θ a.cmd.cU,θ a.cmd.tj.1,ι κ a.cmd.tj.2,θ a.cmd.uz.1,ι κ a.cmd.uz.2,ψ u H D,ψ y I m,ψ z K E,ι κ a.cmd.cond,ψ A L F,ψ C O G]/\Ξ W (Ad b (d+i*14))=σ (θ a.uz)/\Ξ W (Ad b (d+i*14+1))=σ (θ a.tj)/\Ξ W (Ad b (d+i*14+2))=σ (ψ o (Λ a.cy) s)/\Ξ W (Ad b (d+i*14+3))=σ (θ a.cmd.cU)/\Ξ W (Ad b (d+i*14+4))=σ (θ a.cmd.tj.1)/\Ξ W (Ad b (d+i*14+5))=σ (ι κ a.cmd.tj.2)/\Ξ W (Ad b (d+i*14+6))=σ (θ a.cmd.uz.1)/\Ξ W (Ad b (d+i*14+7))=σ (ι κ a.cmd.uz.2)/\Ξ W (Ad b (d+i*14+8))=σ (ψ u H D)/\Ξ W (Ad b (d+i*14+9))=σ (ψ y I m)/\Ξ W (Ad b (d+i*14+10))=σ (ψ z K E)/\Ξ W (Ad b (d+i*14+11))=σ (ι κ a.cmd.cond)/\Ξ W (Ad b (d+i*14+12))=σ (ψ A L F)/\Ξ W (Ad b (d+i*14+13))=σ (ψ C O G)/\m=m:=by
 have⟨b,d,cap,hv,Z,g⟩:=Ng Y hi;have⟨o,s,P⟩:=aS.slice M.cy;have⟨⟨u,H,D,Q⟩,⟨y,I,m,R⟩,⟨z,K,E,T⟩,A,L,F,U⟩:=M.ew;have⟨C,G,V⟩:=aS.slice M.gp;have N:zZ a=[θ a.uz,θ a.tj,ψ o (Λ a.cy) s,θ a.cmd.cU,θ a.cmd.tj.1,ι κ a.cmd.tj.2,θ a.cmd.uz.1,ι κ a.cmd.uz.2,ψ u H D,ψ y I m,ψ z K E,ι κ a.cmd.cond,ψ A L F,ψ C (Λ a.ns) G]:=by unfold zZ jT;rw[P,Q,R,T,U,V]
 rw[N]at g;exact⟨b,d,cap,o,s,_,u,H,D,y,I,m,z,K,E,A,L,F,C,G,hv,Z,N,g 0 _ rfl,g 1 _ rfl,g 2 _ rfl,g 3 _ rfl,g 4 _ rfl,g 5 _ rfl,g 6 _ rfl,g 7 _ rfl,g 8 _ rfl,g 9 _ rfl,g 10 _ rfl,g 11 _ rfl,g 12 _ rfl,g 13 _ rfl,rfl⟩
def ux(ts:Δ gP)(gs:Δ iz)(u t:Nm):(Δ gP×Δ iz)×Nat×Nat:=match gs.findIdx? (λg=>ct g.uz u.1&&ct g.tj t.1)with
 |none=>((ts,gs),5,u.2)
 |some k=>((ts,gs.eraseIdx k),0,0)
theorem PN(u:lC X w p ts gs bz)(ag:nD c.nv/\nD c.kv/\nD c.rv/\nD c.sv/\nD c.ov):Calls prog 45 #[π (σ (Ad p 0)),.agg (jT c).toArray] w λr w'=>CK X w p bz w' r (ux ts gs c.uz c.tj):=by have⟨W,E⟩:=nm (w.alloc (ξ (jT c).toArray 41));have o:=(Bx.start w).new (jT c).toArray 41;rw[<- E]at o;have z:=ak E;have I:=ak (CH (u.TT.aU o.lo (ae _)) c.uz.1 c.tj.1);have⟨⟨na,nn,nc,ab⟩,⟨ia,im,ic,Z⟩,⟨qa,qn,qc,ac⟩,⟨sa,sn,sc,T⟩,oa,on,oc,U⟩:=ag;obtain⟨O,kl,-⟩:=o.box (i:=0) rfl;have⟨d0,d1,d2,d3,d4,d5,d6,d7,d8,d9,al⟩:=E7 O;have tF:=u.len.2.1;have⟨gx,A⟩:=nm (gs.findIdx? (λa=>ct a.uz c.uz.1&&ct a.tj c.tj.1));have C:=ak A;rw[<- A]at I;clear E O A;unfold jT at z ⊢;rw[ab,Z,ac,T,U]at z ⊢;go_in;go_wp21;rw[<- z.J];go_wp21;refine I.J.mono ?_;rintro r g ⟨rfl,s⟩;have e3:=(s.cell (p:=Ad w.heap.size 3) kl).trans d3;have e4:=(s.cell (p:=Ad w.heap.size 4) kl).trans d4;cases gx with|none=>rw[show zG ν=-1 from rfl];go_wp21;go_quiet(fail);all_goals (try go_wp2);go_ret2;unfold ux;rw[<- C.J];exact u.same (below_drewN (o.call s).lo _) _ _|some k=>rw[show zG (σ k)=(k:Int)from rfl];have oY:=(aR.1 C.J.symm).1;go_wp21;go_loopw[7,8] (λai ci wr=>∃(i:Nat) (l:Δ iz),i<=Λ gs/\ci=ι κ i/\Hid (l=(gs.take i).eraseIdx k/\wr.ownsRow g.heap.size 155 14 ai (Λ l) (l.flatMap zZ))/\Hid (Below g.heap.size g wr)) (λ_ c _=>Λ gs - (intOf c).toNat);(case atStart=>exact⟨0,[],aB _,rfl,ak ⟨by simp,eM _ _ _ _⟩,ak (aj _ _)⟩);case round=>obtain⟨i,l,hi,rfl,d,m⟩:=hrel;have P:=(o.call (s.trans (m.J.mono s.size))).lo;have N:=u.aU P;obtain⟨tv,gv,K,-,L,-,-⟩:=N.cell;obtain⟨ga,gk,rfl⟩:=aS.slice (aS.dE L);have p1:=bB K 1;simp only[List.getElem?_toArray,List.getElem?_cons_zero,List.getElem?_cons_succ]at p1;have an:=jd K 1;obtain⟨ma,mk,rfl,-⟩:=cR d.J.2;have Wn:Λ l<=8:=(by have y:=d.J.1;rw[y];exact ay (List.length_eraseIdx_le _ _) (by rw[bZ];omega));by_cases M:i<Λ gs;{have gY:=aX.2 M;have⟨a,F⟩:=l9 M;obtain⟨b,am,cap,a1,a2,k2,a3,n3,k3,a4,n4,k4,a5,n5,k5,a6,n6,k6,a7,k7,ad,mo,Sq,x0,x1,x2,x3,x4,x5,x6,x7,x8,x9,ao,ap,ar,av,-⟩:=an8 (aS.dE L) F ((N.held _ (bu.refl _ _)).2 a (aq F));cases ad;have G:=ak (Ih (k:=k) F);have V:=ak Sq;by_cases D:i=k;{have aa:((i:Int) != (k:Int))=false:=(by rw[D];simp);have Y:=ak D;go_wp21;exact⟨⟨i+1,l,by omega,by go_num,ak ⟨by rw[G.J,aN Y.J,cM];exact d.J.1,d.J.2⟩,m⟩,by simp[intOf];omega⟩};have aa:((i:Int) != (k:Int))=true:=(by rw[dZ];omega);go_wp2_with(at_builtin;refine nW (arr:=#[θ a.uz,θ a.tj,ψ a1 (Λ a.cy) a2,θ a.cmd.cU,θ a.cmd.tj.1,ι κ a.cmd.tj.2,θ a.cmd.uz.1,ι κ a.cmd.uz.2,ψ a3 n3 k3,ψ a4 n4 k4,ψ a5 n5 k5,ι κ a.cmd.cond,ψ a6 n6 k6,ψ a7 k2 k7]) rfl _ _ 98 rfl (base:=g.heap.size) underlying98 Tryz.TU ⟨rfl,by decide,by decide⟩ (v:=ψ ma (Λ l) mk) (n:=Λ l) (xs:=l.flatMap zZ) rfl d.J.2 (N:=wr.heap.size) rfl rfl rfl (by simp[Value.oneCell']) (by omega) m.J.size ?_);intro g3 qF Q h2 h3 h4;have H:=ak (show Q.ownsRow g.heap.size 155 14 (ψ (σ (Ad g3 0)) (Λ l+1) qF) (l++[a]).length ((l++[a]).flatMap zZ)/\Below g.heap.size g Q from⟨by rw[au,cX,show[a].flatMap zZ=zZ a by simp,V.J];exact h2,(m.J.alloc m.J.size _).grown h3 (by have:=m.J.size;simp;omega) (λk' e=>(d.J.2.lt k' e).1)⟩);go_wp21;exact⟨⟨i+1,l++[a],by omega,by go_num,ak ⟨by rw[G.J,aH D,<- d.J.1],H.J.1⟩,ak H.J.2⟩,by simp[intOf];omega⟩};have R:Hid (l=gs.eraseIdx k):=ak (by have y:=d.J.1;rw[aQ (by omega)]at y;exact y);go_wp21;go_ret2;unfold ux;rw[<- C.J];dsimp only;rw[<- R.J];exact u.afP P (jR d.J.2 (o.call s).lo.size) (by rw[R.J];exact sy _ _) Wn
end
theorem Tryz.abU:(prog.info? 149).map (λi=>(i.zero,i.size,i.bytes))=σ (σ (.agg #[θ ⟨#[]⟩,ψ ν 0 0,ψ ν 0 0]),3,64):=by kernel_rfl
section
variable {X:Nat->Prop} {w:ω} {p bz:Nat} {ts LQ:Δ gP} {gs Km:Δ iz} {c:rF}
theorem lC.aj1(g:lC X w p ts gs bz){W:ω}{G:Δ It}(S:Bx w W (.inr (u,155,14,Λ Km,Km.flatMap zZ)::.inr (m,149,3,Λ LQ,LQ.flatMap vD)::G))(C:LQ.Sublist ts)(d:Km.Sublist gs)(M:Λ LQ<=4/\(Λ Km)<=8)(D:∀a∈Km,∃t∈LQ,ct t.aI a.tj=true):CK X w p bz ((W.setCell (Ad p 0) m).setCell (Ad p 1) u) (τ (.tuple #[ι κ 0,ι κ 0])) ((LQ,Km),0,0):=by obtain⟨P,O,E,-⟩:=g.cell;have N:=aA E;have z:=S.row (i:=0) rfl;have A:=S.row (i:=1) rfl;have H:=(bE.mp S.ap).1 _ (.head _);have s:∀a,Ω u=σ a->w.heap.size<=a/\a≠p:=λa d=>⟨(z.lt a d).1,by have:=(z.lt a d).1;omega⟩;have y:∀a,Ω m=σ a->w.heap.size<=a/\a≠p:=λa d=>⟨(A.lt a d).1,by have:=(A.lt a d).1;omega⟩;have L:=bq _ p 1 _ _ u (bq W p 0 _ _ m ((S.lo.block p N).trans E));exact g.renew (X':=λa=>X a\/Ω u=σ a\/Ω m=σ a) (tv:=m) (gv:=u) (((qQ S.lo).setCell (p:=Ad p 0) (λo=>o.2 (.inl rfl)) m).setCell (p:=Ad p 1) (λo=>o.2 (.inl rfl)) u) (λa e=>.inr (e.elim (λe=>(y a e).1) (λe=>(s a e).1))) (by simpa using L) (bO (bO (jR A (aB _)) (λe=>(y p e).2 rfl) _) (λe=>(y p e).2 rfl) _) (bO (bO (jR z (aB _)) (λe=>(s p e).2 rfl) _) (λe=>(s p e).2 rfl) _) (λa d=>d.imp id λe=>e.elim (λe=>(s a e).1) (λe=>(y a e).1)) (λa=>.inl) (λa e=>⟨.inr (.inr e),(y a e).2⟩) (λa e=>⟨.inr (.inl e),(s a e).2,λI=>H a e I⟩) M ⟨D,g.inv.bJ.sublist C,g.inv.keys.sublist d⟩ (λa d=>by simp only[World.setCell,Array.size_modify];exact d.elim (λK=>aw (g.Wm a K) S.lo.size) (λe=>e.elim (λe=>(z.lt a e).2) (λe=>(A.lt a e).2))) (λw' o _=>⟨λt D=>(g.held w' o).1 t (C.subset D),λa F=>((g.held w' o).2 a (d.subset F)).less λt g=>C.subset g⟩)
def DR(ts:Δ gP)(gs:Δ iz)(t:Nm):(Δ gP×Δ iz)×Nat×Nat:=match ts.findIdx? (λx=>ct x.aI t.1)with
 |none=>((ts,gs),5,t.2)
 |some k=>((ts.eraseIdx k,gs.filter λg=>!ct g.tj t.1),0,0)
theorem Ye(m:lC X w p ts gs bz)(am:nD c.nv/\nD c.kv/\nD c.rv/\nD c.sv/\nD c.ov):Calls prog 42 #[π (σ (Ad p 0)),.agg (jT c).toArray] w λr w'=>CK X w p bz w' r (DR ts gs c.tj):=by
 have⟨W,U⟩:=nm (w.alloc (ξ (jT c).toArray 41));have G:=(Bx.start w).new (jT c).toArray 41;rw[<- U]at G;have M:=ak U;have Sr:=ak (wW (m.TT.aU G.lo (ae _)) c.tj.1);have⟨⟨na,nn,nc,ai⟩,⟨ia,im,ic,Kk⟩,⟨qa,qn,qc,al⟩,⟨sa,sn,sc,G8⟩,oa,on,oc,Gx⟩:=am;obtain⟨k0,kl,-⟩:=G.box (i:=0) rfl;have⟨d0,d1,d2,d3,d4,d5,d6,d7,d8,d9,ax⟩:=E7 k0;have tF:=m.len.2.1;have Nn:=m.len.1;have⟨gx,N⟩:=nm (ts.findIdx? (λx=>ct x.aI c.tj.1));have F:=ak N;rw[<- N]at Sr;clear U k0 N;unfold jT at M ⊢;rw[ai,Kk,al,G8,Gx]at M ⊢;go_in;go_wp21;rw[<- M.J];go_wp21;refine Sr.J.mono ?_;rintro r w1 ⟨rfl,Q⟩;have e1:=(Q.cell (p:=Ad w.heap.size 1) kl).trans d1;have e2:=(Q.cell (p:=Ad w.heap.size 2) kl).trans d2;have FV:=(G.call Q);cases gx with
 |none=>rw[show zG ν=-1 from rfl];go_wp2;go_quiet(fail);all_goals (try go_wp2);go_ret2;unfold DR;rw[<- F.J];exact m.same (below_drewN FV.lo _) _ _
 |some k=>
  rw[show zG (σ k)=(k:Int)from rfl];have oY:=(aR.1 F.J.symm).1;go_wp2;go_loopw[7,8] (λZ R wr=>∃(i:Nat) (l:Δ gP),i<=Λ ts/\R=ι κ i/\Hid (l=(ts.take i).eraseIdx k/\Bx w wr [.inr (Z,149,3,Λ l,l.flatMap vD),.inl (w.heap.size,(jT c).toArray,41)])) (λ_ c _=>Λ ts - (intOf c).toNat);case atStart=>exact⟨0,[],aB _,rfl,ak ⟨by simp,FV.nil _ _⟩⟩
  case round=>
   obtain⟨i,l,hi,rfl,g⟩:=hrel;have D:=m.aU g.J.2.lo;obtain⟨tv,gv,u,A,-,-,-⟩:=D.cell;obtain⟨ga,gk,rfl⟩:=aS.slice (aS.dE A);have p1:=bB u 0;simp only[List.getElem?_toArray,List.getElem?_cons_zero]at p1;obtain⟨ma,mk,rfl,-⟩:=cR (g.J.2.row (i:=0) rfl);have Wn:Λ l<=4:=(by have o:=g.J.1;rw[o];exact ay (List.length_eraseIdx_le _ _) (by rw[bZ];omega));by_cases cK:i<Λ ts
   .have gY:=aX.2 cK;have⟨t,I⟩:=l9 cK;have⟨b,ar,cap,Y,mo,x0,x1,x2⟩:=G7 (aS.dE A) I;cases Y;have Np:=(D.held _ (bu.refl _ _)).1 t (aq I);have⟨ca,ck,TN⟩:=Np.rel.hc.slice;have⟨ra,rk,Wf⟩:=Np.rel.hr.slice;have K:=ak (show vD t=[θ t.aI,ψ ca (Λ t.cy) ck,ψ ra (Λ t.ry) rk]by unfold vD;rw[TN,Wf]);rw[TN]at x1;rw[Wf]at x2;have aa:=(Ih (k:=k) I);by_cases O:i=k;{have ad:((i:Int) != (k:Int))=false:=(by rw[O];simp);go_wp2;exact⟨⟨i+1,l,by omega,by go_num,ak ⟨by rw[aa,aN O,cM];exact g.J.1,g.J.2⟩⟩,by simp[intOf];omega⟩}
    have ad:((i:Int) != (k:Int))=true:=(by rw[dZ];omega)
    go_wp2_with(at_builtin;refine nW (arr:=#[θ t.aI,ψ ca (Λ t.cy) ck,ψ ra (Λ t.ry) rk]) rfl _ _ 97 rfl (base:=w.heap.size) underlying97 Tryz.abU ⟨rfl,by decide,by decide⟩ (v:=ψ ma (Λ l) mk) (n:=Λ l) (xs:=l.flatMap vD) rfl (g.J.2.row (i:=0) rfl) (N:=wr.heap.size) rfl rfl rfl (by simp[Value.oneCell']) (by omega) g.J.2.lo.size ?_);intro T qF w3 y C z;have L:=ak (show Bx w w3 [.inr (ψ (σ (Ad T 0)) (Λ l+1) qF,149,3,(l++[t]).length,(l++[t]).flatMap vD),.inl (w.heap.size,(jT c).toArray,41)]by
     rw[au,cX,show[t].flatMap vD=vD t by simp,K.J];exact(g.J.2.call ((aj _ _).alloc (ae _) _)).app y C (z.imp id λm=>by simp;omega))
    go_wp2;exact⟨⟨i+1,l++[t],by omega,by go_num,ak ⟨by rw[aa,aH O,<- g.J.1],L.J⟩⟩,by simp[intOf];omega⟩
   have wR:Hid (l=ts.eraseIdx k):=ak (by have o:=g.J.1;rw[aQ (by omega)]at o;exact o);have ac:=g.J.2;obtain⟨wo,an⟩:∃x,x=wr:=⟨_,rfl⟩;subst an;go_wp2;go_loopw[9,10] (λZ R wr=>∃(j:Nat) (d:Δ iz),j<=Λ gs/\R=ι κ j/\Hid (d=(gs.take j).filter (λa=>!ct a.tj c.tj.1)/\Bx w wr [.inr (Z,155,14,Λ d,d.flatMap zZ),.inr (ψ ma (Λ l) mk,149,3,Λ l,l.flatMap vD),.inl (w.heap.size,(jT c).toArray,41)])) (λ_ c _=>Λ gs - (intOf c).toNat);(case atStart=>exact⟨0,[],aB _,rfl,ak ⟨by simp,ac.nil _ _⟩⟩);case round=>
    obtain⟨j,d,hj,rfl,s⟩:=hrel;have D:=m.aU s.J.2.lo;obtain⟨tv,gv,u,-,A,-,-⟩:=D.cell;obtain⟨ga,gk,rfl⟩:=aS.slice (aS.dE A);have p0:=bB u 0;have p1:=bB u 1;simp only[List.getElem?_toArray,List.getElem?_cons_zero,List.getElem?_cons_succ]at p0 p1;have aT:=jd u 0;have a0:=jd u 1;have zi:=aA u;obtain⟨kb,aC,-⟩:=s.J.2.box (i:=2) rfl;have q1:Ξ wr (Ad w.heap.size 1)=σ (θ c.tj.1):=bB kb 1;obtain⟨ao,ap,rfl,-⟩:=cR (s.J.2.row (i:=0) rfl);have ag:Λ d<=8:=(by have o:=s.J.1;rw[o];exact ay (gX _ _) (by rw[bZ];omega));by_cases Ct:j<Λ gs
    .have av:=aX.2 Ct;have⟨a,V⟩:=l9 Ct;obtain⟨b,ar,cap,a1,a2,k2,a3,n3,k3,a4,n4,k4,a5,n5,k5,a6,n6,k6,a7,k7,Y,mo,Sq,x0,x1,x2,x3,x4,x5,x6,x7,x8,x9,a8,a9,ba,bb,-⟩:=an8 (aS.dE A) V ((D.held _ (bu.refl _ _)).2 a (aq V));cases Y;have ab:=(show(gs.take (j+1)).filter (λa=>!ct a.tj c.tj.1)=d++[a].filter (λa=>!ct a.tj c.tj.1)by rw[bS,V,ou,<- s.J.1];rfl);have K:=ak Sq;have H:=iZ a.tj c.tj.1;have E:=λn=>s.J.2.call (below_drewN (aj wr.heap.size wr) n);cases jK:ct a.tj c.tj.1
     .rw[jK]at H;have t2:(a.tj.toList != c.tj.1.toList)=true:=(by rw[bne,H];rfl)
      go_wp2;go_quiet(fail);go_wp2_with(at_builtin;refine nW (arr:=#[θ a.uz,θ a.tj,ψ a1 (Λ a.cy) a2,θ a.cmd.cU,θ a.cmd.tj.1,ι κ a.cmd.tj.2,θ a.cmd.uz.1,ι κ a.cmd.uz.2,ψ a3 n3 k3,ψ a4 n4 k4,ψ a5 n5 k5,ι κ a.cmd.cond,ψ a6 n6 k6,ψ a7 k2 k7]) rfl _ _ 98 rfl (base:=w.heap.size) underlying98 Tryz.TU ⟨rfl,by decide,by decide⟩ (v:=ψ ao (Λ d) ap) (n:=Λ d) (xs:=d.flatMap zZ) rfl ((E _).row (i:=0) rfl) (N:=wr.heap.size) rfl (by simp) rfl (by simp[Value.oneCell']) (by omega) (E _).lo.size ?_);intro T qF w3 y C z;have L:=ak (show Bx w w3 [.inr (ψ (σ (Ad T 0)) (Λ d+1) qF,155,14,(d++[a]).length,(d++[a]).flatMap zZ),.inr (ψ ma (Λ l) mk,149,3,Λ l,l.flatMap vD),.inl (w.heap.size,(jT c).toArray,41)]by
       rw[au,cX,show[a].flatMap zZ=zZ a by simp,K.J];exact((E _).call ((aj _ _).alloc (ae _) _)).app y C (z.imp id λm=>by simp at m ⊢;omega))
      go_wp2;exact⟨⟨j+1,d++[a],by omega,by go_num,ak ⟨by rw[ab];simp[jK],L.J⟩⟩,by simp[intOf];omega⟩
     rw[jK]at H;have t2:(a.tj.toList != c.tj.1.toList)=false:=(by rw[bne,H];rfl);go_wp2;go_quiet(fail);go_wp2;exact⟨⟨j+1,d,by omega,by go_num,ak ⟨by rw[ab];simp[jK],E _⟩⟩,by simp[intOf];omega⟩
    have P:Hid (d=gs.filter λa=>!ct a.tj c.tj.1):=ak (by have o:=s.J.1;rw[aQ (by omega)]at o;exact o);go_wp2;go_ret2;unfold DR;rw[<- F.J]
    dsimp only;rw[<- wR.J,<- P.J];exact m.aj1 s.J.2 (by rw[wR.J];exact sy _ _) (by rw[P.J];exact uk) ⟨Wn,ag⟩ (λa hg=>by
     rw[P.J]at hg;have⟨o,y⟩:=fU.1 hg;have⟨t,C,z⟩:=m.inv.tied a o;refine⟨t,?_,z⟩;rw[wR.J,List.mem_eraseIdx_iff_getElem?];have⟨i',GY⟩:=cB C;refine⟨i',λe=>?_,GY⟩;obtain⟨q1,q2,-⟩:=aR.1 F.J.symm;subst e;rw[(ah.1 GY).2,cD.1 z]at q2;rw[q2]at y
     cases y)
end
section
variable {X:Nat->Prop} {w W:ω} {p bz:Nat} {ts:Δ gP} {gs:Δ iz}
theorem LS:∀{ts:Δ gP} {k:Nat} {t:gP} (a:υ) (r:Δ (Δ aF)),ts[k]?=σ t->(ts.flatMap vD).set (k*3+2) a=(ts.set k { t with ry:=r,rv:=a }).flatMap vD
 |[],_,_,_,_,h=>by simp at h
 |x::l,0,t,a,r,h=>by
   simp only[List.getElem?_cons_zero,Option.some.injEq]at h;subst h;rfl
 |x::l,k+1,t,a,r,h=>by
   have:=LS a r (show l[k]?=σ t from h);simp only[List.flatMap_cons,List.set_cons_succ,<- this,vD,show(k+1)*3+2=(k*3+2)+1+1+1 by omega,List.cons_append,List.nil_append]
theorem Yf{ts:Δ gP}{k:Nat}{t t':gP}(a:ts[k]?=σ t)(d:t'.aI=t.aI):(ts.set k t').map gP.aI=ts.map gP.aI:=by rw[yZ,d];apply dr;intro i;rw[bK];by_cases e:k=i;{subst e;rw[aN rfl,bp,a];simp[(List.getElem?_eq_some_iff.1 a).1]};rw[aH e]
theorem mem_set{ts:Δ gP}{k:Nat}{d x:gP}(g:x∈ts.set k d):x∈ts\/x=d:=by have⟨i,a⟩:=cB g;rw[bK]at a;by_cases e:k=i;{rw[aN e]at a;split at a;{exact .inr (bh a).symm};exact absurd a (by simp)};rw[aH e]at a;exact .inl (aq a)
theorem lC.aj3(d:lC X w p ts gs bz)(A:Below w.heap.size w W){k:Nat}{t:gP}(C:ts[k]?=σ t){n cap:Nat}{r:Δ (Δ aF)}(Q:w.heap[p]?=σ (ξ #[ψ (σ (Ad a 0)) n cap,m,ι κ bz] 100 (0,0)))(V:∀w',bu (Out X W) W w'->afz w' { t with ry:=r,rv:=u }):CK X w p bz (W.setCell (Ad a (k*3+2)) u) (τ (.tuple #[ι κ 0,ι κ 0])) ((ts.set k { t with ry:=r,rv:=u },gs),0,0):=by
 have⟨tv,E,z,F,O,G,H⟩:=d.cell;have zi:=aA z;obtain⟨rfl,rfl⟩:tv=ψ (σ (Ad a 0)) n cap/\E=m:=(by have:=z.symm.trans Q;simp only[Option.some.injEq,Obj.cells.injEq,Array.mk.injEq,List.cons.injEq,and_true]at this;exact⟨this.1,this.2⟩);have⟨P,U⟩:=G a rfl;have T:n=Λ ts:=(by obtain⟨D,c,e,-⟩:=cR F;simp only[Value.slice.injEq]at e;exact e.2.1);subst T;have L:=((cO F A).stored (k*3+2) u).1;rw[LS u r C]at L;have K:=Yf (t':={ t with ry:=r,rv:=u }) C rfl;refine d.renew (X':=X) (tv:=ψ (σ (Ad a 0)) (Λ ts) cap) (gv:=E) ((qQ (p:=p) A).setCell (p:=Ad a (k*3+2)) (λC=>C.2 (.inr ⟨_,_,_,z,.inl rfl⟩)) u) (λy e=>.inl (.inr ⟨_,_,_,z,e⟩)) ?_ (by rw[eP];exact L) (bO (cO O A) (λe=>(H a e).2.2 rfl) _) (λy g=>.inl g) (λ_ g=>g) G H (by rw[eP];exact⟨d.len.1,d.len.2.1⟩) ⟨λy g=>?_,?_,d.inv.keys⟩ (λy g=>by simp only[World.setCell,Array.size_modify];exact aw (d.Wm y g) A.size) λw' N Z=>⟨λx o=>?_,λy g=>?_⟩;{rw[heap_setCell_other _ _ _ _ (λe=>U e.symm)];exact(A.block p zi).trans z};{have⟨x,o,R⟩:=d.inv.tied y g;have:x.aI∈(ts.set k { t with ry:=r,rv:=u }).map gP.aI:=(by rw[K];exact fu o);have⟨aa,Y,e⟩:=cP.1 this;exact⟨aa,Y,by rw[e];exact R⟩};{have:=jX (f:=gP.aI) (R:=λD b=>ct D b=false) |>.2 d.inv.bJ;rw[<- K]at this;exact jX.1 this};{rcases mem_set o with o|rfl;{exact(d.held w' N).1 x o};refine V w' (bu.trans (bu.setCell (bu.refl _ _) (p:=Ad a (k*3+2)) (λd=>d.2 P) u) (Z.mono λi I=>⟨?_,I.2⟩));simp only[World.setCell,Array.size_modify];exact I.1}
 have s:=(d.held w' N).2 y g;refine⟨s.cy,s.nodup,s.abI,s.gp,s.small,s.rep,s.ew,λx o M=>?_⟩;rcases mem_set o with o|rfl
 {exact s.over x o M};exact s.over t (aq C) M
end
def FW:Δ υ->Nat->Δ υ->Δ υ
 |xs,_,[]=>xs
 |xs,o,v::r=>FW (xs.set o v) (o+1) r
theorem Ii{A:Δ υ}:∀{vs:Δ υ} {o:Nat} {l:Δ υ},FW (A++l) (Λ A+o) vs=A++FW l o vs
 |[],_,_=>rfl
 |v::r,o,l=>by
   unfold FW;rw[eO _ _ (by omega),show Λ A+o - Λ A=o by omega,iH];exact Ii
theorem PO:∀{d l a:Δ υ},Λ l=Λ d->FW (l++a) 0 d=d++a
 |[],l,a,h=>by
   rw[fm.1 h];rfl
 |v::r,[],a,h=>by simp at h
 |v::r,x::l,a,h=>by
   unfold FW;have:=Ii (A:=[v]) (vs:=r) (o:=0) (l:=l++a);rw[PO (by simpa using h)]at this;simpa using this
theorem Ij:∀{gs:Δ iz} {k:Nat} (a:iz),k<Λ gs->FW (gs.flatMap zZ) (k*14) (zZ a)=(gs.set k a).flatMap zZ
 |[],_,_,h=>by simp at h
 |x::l,0,a,_=>by
   rw[eD,iB,eD];exact PO rfl
 |x::l,k+1,a,h=>by
   rw[eD,oq,eD,<- Ij a (by simpa using h),show(k+1)*14=(zZ x).length+k*14 by show _=14+_;omega];exact Ii
section
variable {B n cap b sz:Nat} {e:TypeId} {v:υ}
theorem LU:∀(d:Δ υ) (a:Nat) (W:ω) (xs:Δ υ),W.ownsRow B e sz (ψ (σ (Ad b 0)) n cap) n xs->(W.setCells b a d).ownsRow B e sz (ψ (σ (Ad b 0)) n cap) n (FW xs a d)
 |[],_,_,_,h=>h
 |u::r,a,W,xs,h=>LU r (a+1) (W.setCell (Ad b a) u) (xs.set a u) (h.stored a u).1
theorem zj(d:Ω v≠σ b){xs:Δ υ}:∀(g:Δ υ) (a:Nat) (W:ω),W.ownsRow B e sz v n xs->(W.setCells b a g).ownsRow B e sz v n xs
 |[],_,_,h=>h
 |u::r,a,W,h=>zj d r (a+1) (W.setCell (Ad b a) u) (bO h d _)
theorem wZ{k:Nat}(d:k≠b):∀(g:Δ υ) (a:Nat) (W:ω),(W.setCells b a g).heap[k]?=W.heap[k]?
 |[],_,_=>rfl
 |u::r,a,W=>(wZ d r (a+1) (W.setCell (Ad b a) u)).trans (heap_setCell_other W (Ad b a) k u d)
theorem CL:∀(d:Δ υ) (a:Nat) (W:ω),(W.setCells b a d).heap.size=W.heap.size
 |[],_,_=>rfl
 |u::r,a,W=>(CL r (a+1) (W.setCell (Ad b a) u)).trans (by simp only[World.setCell,Array.size_modify])
theorem Ab{d:Nat->Prop}{g:ω}(m:¬d b):∀(o:Δ υ) (a:Nat) (W:ω),bu d g W->bu d g (W.setCells b a o)
 |[],_,_,h=>h
 |u::r,a,W,h=>Ab m r (a+1) (W.setCell (Ad b a) u) (h.setCell (p:=Ad b a) m u)
end
theorem abV{gs:Δ iz}{k:Nat}{g d:iz}(m:gs[k]?=σ g)(o:ct d.uz g.uz=true/\ct d.tj g.tj=true)(y:gs.Pairwise λa b=>(ct a.uz b.uz&&ct a.tj b.tj)=false):(gs.set k d).Pairwise λa b=>(ct a.uz b.uz&&ct a.tj b.tj)=false:=by have s:d.uz=g.uz:=cD.1 o.1;have u:d.tj=g.tj:=cD.1 o.2;have z:(gs.set k d).map (λx=>(x.uz,x.tj))=gs.map λx=>(x.uz,x.tj):=(by rw[yZ,s,u];apply dr;intro i;rw[bK];by_cases e:k=i;{subst e;rw[aN rfl,bp,m];simp[(List.getElem?_eq_some_iff.1 m).1]};rw[aH e]);have:=jX (f:=λx:iz=>(x.uz,x.tj)) (R:=λa b=>(ct a.1 b.1&&ct a.2 b.2)=false) |>.2 y;rw[<- z]at this;exact jX.1 this
theorem PR{gs:Δ iz}{k:Nat}{a x:iz}(d:x∈gs.set k a):x∈gs\/x=a:=iW d
section
variable {X:Nat->Prop} {w W:ω} {p bz:Nat} {ts:Δ gP} {gs:Δ iz}
theorem lC.aj4(d:lC X w p ts gs bz)(u:Below w.heap.size w W){k:Nat}{o g':iz}(y:gs[k]?=σ o)(F:ct g'.uz o.uz=true/\ct g'.tj o.tj=true){n cap:Nat}(N:w.heap[p]?=σ (ξ #[m,ψ (σ (Ad a 0)) n cap,ι κ bz] 100 (0,0)))(Q:∀w',bu (Out X W) W w'->DGr w' ts g'):CK X w p bz (W.setCells a (k*14) (zZ g')) (τ (.tuple #[ι κ 0,ι κ 0])) ((ts,gs.set k g'),0,0):=by have⟨H,I,s,K,C,L,D⟩:=d.cell;have U:=aA s;obtain⟨rfl,rfl⟩:H=m/\I=ψ (σ (Ad a 0)) n cap:=(by have:=s.symm.trans N;simp only[Option.some.injEq,Obj.cells.injEq,Array.mk.injEq,List.cons.injEq,and_true]at this;exact⟨this.1,this.2⟩);have⟨M,P,R⟩:=D a rfl;have O:n=Λ gs:=(by obtain⟨V,c,e,-⟩:=cR C;simp only[Value.slice.injEq]at e;exact e.2.1);subst O;have E:=LU (zZ g') (k*14) W _ (cO C u);rw[Ij g' (ah.1 y).1]at E;refine d.renew (X':=X) (tv:=H) (gv:=ψ (σ (Ad a 0)) (Λ gs) cap) (Ab (λy=>y.2 (.inr ⟨_,_,_,s,.inr rfl⟩)) _ _ _ (qQ u)) (λo e=>.inl (.inr ⟨_,_,_,s,e⟩)) ?_ (zj R _ _ _ (cO K u)) (by rw[eP];exact E) (λo A=>.inl A) (λ_ A=>A) L D (by rw[eP];exact⟨d.len.1,d.len.2.1⟩) ⟨λx g=>?_,d.inv.bJ,abV y F d.inv.keys⟩ (λi z=>by rw[CL];exact aw (d.Wm i z) u.size) λw' G T=>⟨(d.held w' G).1,λx g=>?_⟩;{rw[wZ (λe=>P e.symm)];exact(u.block p U).trans s};{rcases PR g with g|rfl;{exact d.inv.tied x g};rw[cD.1 F.2];exact d.inv.tied o (aq y)};rcases PR g with g|rfl;{exact(d.held w' G).2 x g};refine Q w' (bu.trans (Ab (b:=a) (λd=>d.2 M) _ _ _ (bu.refl _ _)) (T.mono λi z=>⟨?_,z.2⟩));rw[CL];exact z.1
end
def Ik(w:ω)(b:Nat):ω:={ w with heap:=w.heap.setIfInBounds b (ξ #[] 0 (0,0)) }
section
variable {X:Nat->Prop} {w w':ω} {b size n:Nat} {v:υ} {xs ys:Δ υ}
theorem Ac(a:X b):bu (Out X w) w (Ik w b):=
 ⟨rfl,rfl,rfl,by simp[Ik],λk d=>by
  have:b≠k:=λe=>d.2 (e ▸ a);simp only[Ik,Array.getElem?_setIfInBounds,if_neg this]⟩
theorem LV(d:aS (Ik w b) size v n xs)(o:0<n)(z:0<size){p:Addr}{c:Nat}(e:v=ψ (σ p) n c):p.block≠b:=λm=>by
 obtain⟨a,E,cap,A,-,u,C⟩:=aS.at d o;rw[A]at e
 cases e
 have y:0<Λ xs:=by rw[d.1];exact Nat.mul_pos o z
 have g:=C 0 xs[0] (by simp[y]);have D:b<w.heap.size:=by
  have:a<w.heap.size:=by simpa[Ik]using u
  exact bY (uF m.symm) this
 have s:(Ik w b).heap[b]?=σ (ξ #[] 0 (0,0)):=by simp[Ik,D]
 rw[show a=b from m,bB s]at g;simp at g
theorem DS(a:aS w size v n xs)(s:0<n->∀p c,v=ψ (σ p) n c->¬X p.block)(m:bu (Out X w) w w'):aS w' size v n xs:=by
 by_cases g:0<n;{refine aS.stays a m.size λp c e=>m.block _ ⟨?_,s g p c e⟩;obtain⟨A,D,cap,y,-,u,-⟩:=aS.at a g;rw[y]at e;cases e;exact u}
 obtain rfl:n=0:=by omega
 have⟨o,d⟩:=a;refine⟨o,.inl ⟨rfl,?_⟩⟩;rcases d with⟨-,d⟩|⟨C,E,z,e,-⟩
 {exact d};exact⟨_,_,e⟩
theorem row_one(a:aS w size v n xs)(d:aS w size v n ys):xs=ys:=by by_cases A:0<n;{rcases a.2 with⟨e,-⟩|⟨y,C,c,e,-,-,o⟩;{omega};rcases d.2 with⟨e,-⟩|⟨z,D,u,g,-,-,s⟩;{omega};rw[e]at g;cases g;apply dr;intro i;by_cases m:i<n*size;{rw[<- o i m,<- s i m]};rw[bM (by rw[a.1];omega),bM (by rw[d.1];omega)]};obtain rfl:n=0:=(by omega);rw[fm.1 (a.1.trans (oo _)),fm.1 (d.1.trans (oo _))]
theorem PS{ry:Δ (Δ aF)}(o:∀w',bu (Out X w) w w'->ft w' v ry):∃d:Δ υ,Λ d=Λ ry/\∀w',bu (Out X w) w w'->aS w' 1 v (Λ ry) d/\∀(i:Nat) (a:Δ aF),ry[i]?=σ a->∃m,d[i]?=σ m/\dW w' m a:=by
 have⟨d,u,H⟩:=o w (bu.refl _ _);have A:0<Λ ry->∀p c,v=ψ (σ p) (Λ ry) c->¬X p.block:=λs p c e g=>by
  obtain⟨F,y,-⟩:=o _ (Ac g);exact LV y s (by decide) e rfl
 refine⟨d,by have:=u.1;omega,λw' D=>⟨DS u A D,λi a C=>?_⟩⟩;have⟨m,E,I⟩:=H i a C;refine⟨m,E,DS I (λs p c e g=>?_) D⟩;have⟨F,y,K⟩:=o _ (Ac g);obtain rfl:=row_one (DS u A (Ac g)) y;have⟨L,z,G⟩:=K i a C;rw[E]at z;cases z;exact LV G s (by decide) e rfl
end
section
variable {X:Nat->Prop} {w W:ω} {p bz:Nat} {ts:Δ gP} {gs:Δ iz}
theorem lC.ry(m:lC X w p ts gs bz){t:gP}(s:t∈ts):∃a:Δ υ,Λ a=Λ t.ry/\∀w',bu (Out X w) w w'->aS w' 1 t.rv (Λ t.ry) a/\∀(i:Nat) (d:Δ aF),t.ry[i]?=σ d->∃g,a[i]?=σ g/\dW w' g d:=PS λw' o=>((m.held w' o).1 t s).rel.hr
theorem lC.loaded(E:lC X w p ts gs bz){k:Nat}{t:gP}(G:ts[k]?=σ t){n cap:Nat}(R:w.heap[p]?=σ (ξ #[ψ (σ (Ad a 0)) n cap,m,ι κ bz] 100 (0,0))){y:Δ υ}(U:Λ y=Λ t.ry)(Z:∀w',bu (Out X w) w w'->aS w' 1 t.rv (Λ t.ry) y/\∀(i:Nat) (A:Δ aF),t.ry[i]?=σ A->∃K,y[i]?=σ K/\dW w' K A){d:Δ (υ×Δ aF)}{C:Δ It}{N:TypeId}{D:Nat}(P:D=Λ t.ry+Λ d)(S:Bx w W (.inr (u,g,1,D,y++d.map Prod.fst)::C))(O:∀x∈d,.inr (x.1,N,3,Λ x.2,bW x.2)∈C)(oI:nE (Λ t.cy) (d.map Prod.snd))(hn:D<=64):CK X w p bz (W.setCell (Ad a (k*3+2)) u) (τ (.tuple #[ι κ 0,ι κ 0])) ((ts.set k { t with ry:=t.ry++d.map Prod.snd,rv:=u },gs),0,0):=by
 subst P;have F:∀{i:Nat} {v:υ} {e:TypeId} {L c:Nat} {xs:Δ υ},(.inr (u,g,1,Λ t.ry+Λ d,y++d.map Prod.fst)::C:Δ It)[i]?=σ (.inr (v,e,L,c,xs))->∀w',bu (Out X W) W w'->aS w' L v c xs:=λs w' z=>by
  have o:=S.row s;refine DS (aS.dE o) (λh0 q c e Q=>?_) z;have:=(o.lt q.block (by rw[e];rfl)).1;have:=E.Wm _ Q;omega
 refine E.aj3 S.lo G R λw' z=>?_;have H:=uG (X':=X) (wY S.lo) (λ_=>.inl) z;have o:=(E.held w' H).1 t (aq G);have V:(t.ry++d.map Prod.snd).length=Λ t.ry+Λ d:=by simp
 refine⟨⟨o.rel.hc,⟨y++d.map Prod.fst,?_,λi A s=>?_⟩,λr Y=>?_,o.rel.len.1,?_⟩,o.small,o.len.1,?_⟩;{show aS w' 1 u (t.ry++d.map Prod.snd).length _;rw[V];exact F (i:=0) rfl w' z};{by_cases M:i<Λ t.ry;{rw[bF M]at s;rw[bF (by omega)];exact(Z w' H).2 i A s};rw[br (by omega),bp]at s;rw[br (by omega),bp,U];obtain⟨x,I,rfl⟩:=fJ.1 s;rw[I];have⟨j,T⟩:=cB (O x (aq I));exact⟨_,rfl,F (i:=j+1) T w' z⟩};{exact(bA.1 Y).elim (o.rel.ok r) (oI r)};{show(t.ry++d.map Prod.snd).length<=_;omega};show(t.ry++d.map Prod.snd).length<=_;omega
end
def tf(ts:Δ gP)(gs:Δ iz)(t:Nm)(cy:Δ (Nm×Nat))(cv:υ):(Δ gP×Δ iz)×Nat×Nat:=
 if(ts.findIdx? λx=>ct x.aI t.1).isSome then((ts,gs),6,t.2)
 else match ru [] (cy.map Prod.fst)with
  |some q=>((ts,gs),6,q)
  |none=>if 4<=Λ ts\/5<Λ cy then((ts,gs),8,0)else((ts++[⟨t.1,cy.map (λc=>(c.1.1,c.2)),[],cv,ψ ν 0 0⟩],gs),0,0)
theorem T0{l:Δ Nm}{i:Nat}{n:Nm}(a:l[i]?=σ n):ru (l.take i) (l.drop i)=if(l.take i).any (λm=>ct m.1 n.1)then σ n.2 else ru (l.take (i+1)) (l.drop (i+1)):=by have⟨d,g⟩:=ah.1 a;rw[cL d,g,ru,bS,a];rfl
section
variable {X:Nat->Prop} {w:ω} {p bz:Nat} {ts:Δ gP} {gs:Δ iz} {c:rF} {cy:Δ (Nm×Nat)}
theorem lC.one(d:lC X w p ts gs bz){W:ω}{aa:Δ It}{cv:υ}{F:Δ bU}{cap:Nat}(S:Bx w W (.inr (cv,152,2,Λ F,F.flatMap fP)::aa))(U:W.heap[p]?=σ (ξ #[m,u,ι κ bz] 100 (0,0)))(Y:o.ownsRow 0 149 3 (ψ (σ (Ad a 0)) (Λ ts+1) cap) (Λ ts+1) (ts.flatMap vD++[θ s,cv,ψ ν 0 0]))(L:W.grownBy o (Ω m))(E:Ω m=σ a\/W.heap.size<=a)(P:Small F/\(Λ F)<=5)(hl:Λ ts<4)(V:∀x∈ts,ct x.aI s=false):CK X w p bz (o.setCell (Ad p 0) (ψ (σ (Ad a 0)) (Λ ts+1) cap)) (τ (.tuple #[ι κ 0,ι κ 0])) ((ts++[⟨s,F,[],cv,ψ ν 0 0⟩],gs),0,0):=by
 have⟨ai,ag,H,h2,T,M,I⟩:=d.cell;have zi:=aA H;have K:=U.symm.trans ((S.lo.block p zi).trans H);simp only[Option.some.injEq,Obj.cells.injEq,Array.mk.injEq,List.cons.injEq,and_true]at K;obtain⟨rfl,rfl⟩:=K;have qY:=S.lo.size;have SD:=L.size;have Z:=S.row (i:=0) rfl;have Q:a≠p:=E.elim (λe=>(M a e).2) (λe=>by omega);have R:∀k,Ω m=σ k->k<w.heap.size:=λk e=>(h2.lt k e).2;have tF:=(Y.lt a rfl).2;have ab:bu (abQ w p) w o:=(qQ S.lo).grown L (λk z=>aw z.1 qY) (λk e z=>z.2 (.inr ⟨_,_,_,H,.inl e⟩));have ac:o.heap[p]?=W.heap[p]?:=L.block p (by omega) (λe=>(M p e.symm).2 rfl);refine d.renew (X':=λk=>X k\/k=a) (tv:=ψ (σ (Ad a 0)) (Λ ts+1) cap) (gv:=u) (ab.setCell (p:=Ad p 0) (λz=>z.2 (.inl rfl)) _) (λk e=>e.elim (λe=>(show a=k from bh e) ▸ E.elim (λe=>.inl (.inr ⟨_,_,_,H,.inl e⟩)) (λe=>.inr (by omega))) (λe=>.inl (.inr ⟨_,_,_,H,.inr e⟩))) (by simpa using bq o p 0 _ _ (ψ (σ (Ad a 0)) (Λ ts+1) cap) (ac.trans U)) (by
  rw[au,cX];exact bO (by simpa[vD]using Y) (λe:(Value.slice (σ (Ad a 0)) (Λ ts+1) cap).ownBlock=σ p=>Q (bh e)) _) (bO (eG (cO T S.lo) L λk e D=>(I k D).2.2 e) (λe=>(I p e).2.1 rfl) _) (λk z=>z.elim .inl λe=>E.elim (λG=>.inl (e ▸ (M a G).1)) (λG=>.inr (by omega))) (λk=>.inl) (λk e=>?_) (λk e=>⟨.inl (I k e).1,(I k e).2.1,λD=>?_⟩) ⟨by simp;omega,d.len.2.1⟩ ⟨λx A=>?_,?_,d.inv.keys⟩ (λk z=>by simp only[World.setCell,Array.size_modify];exact z.elim (λG=>by have:=d.Wm k G;omega) (λe=>e ▸ tF)) (λw' mL j6=>⟨λt g=>?_,λx A=>?_⟩)
 {have D:a=k:=bh e;exact⟨.inr D.symm,λek=>Q (D.trans ek)⟩};{have e3:a=k:=bh D;subst e3;exact E.elim (λe4=>(I a e).2.2 e4) (λG=>by have:=(T.lt a e).2;omega)};{have⟨t,y,N⟩:=d.inv.tied x A;exact⟨t,bA.2 (.inl y),N⟩};{exact jG.2 ⟨d.inv.bJ,nK _ _,λC ha b zC=>by cases bj.1 zC;exact V C ha⟩};{rcases bA.1 g with g|g;{exact(d.held w' mL).1 t g};cases bj.1 g;have ad:W.heap.size<=w'.heap.size:=ay SD (by have:=j6.size;simpa[World.setCell]using this);refine⟨⟨aS.stays (aS.dE Z) ad λC k e=>?_,⟨[],⟨rfl,.inl ⟨rfl,_,_,rfl⟩⟩,λi cs d=>(by simp at d)⟩,λr d=>(by cases d),by have:=P.2;show Λ F<=10000;omega,by simp⟩,P.1,P.2,by simp⟩;have e':cv=ψ (σ C) (Λ F) k:=e;have⟨c1,c2⟩:=Z.lt C.block (by rw[e'];rfl);refine(j6.block C.block ⟨?_,λA=>?_⟩).trans ((aL _ _ _ _ (by show C.block≠p;omega)).trans (L.block C.block c2 λD=>by have:=R C.block D.symm;omega));{simp only[World.setCell,Array.size_modify];omega};rcases A with A|A;{have:=d.Wm _ A;omega};rcases E with E|E;{have:=R a E;omega};omega}
 have y:=(d.held w' mL).2 x A;refine⟨y.cy,y.nodup,y.abI,y.gp,y.small,y.rep,y.ew,λt g K=>?_⟩;rcases bA.1 g with g|g
 {exact y.over t g K};cases bj.1 g;have⟨t',N,h8⟩:=d.inv.tied x A;have O:=V t' N;rw[cD.1 h8,<- cD.1 K]at O;rw[show ct s s=true from cD.2 rfl]at O;cases O
end
def BX(ts:Δ gP)(gs:Δ iz)(t:Nm)(ry:Δ oE)(m:υ):(Δ gP×Δ iz)×Nat×Nat:=match ts.findIdx? (λx=>ct x.aI t.1)with
 |none=>((ts,gs),5,t.2)
 |some k=>match ts[k]? with
   |none=>((ts,gs),0,0)
   |some x=>match ry.findSome? (lU x.cy)with
     |some q=>((ts,gs),7,q)
     |none=>if 64<Λ x.ry+Λ ry then((ts,gs),8,0)else((ts.set k { x with ry:=x.ry++ry.map (λr=>r.ew.map cellOf),rv:=m },gs),0,0)
section
variable {α β:Type} {l:Δ α} {i:Nat} {x:α}
theorem PT{f:α->Option β}{q:β}(a:l[i]?=σ x)(d:(l.take i).findSome? f=ν)(g:f x=σ q):l.findSome? f=σ q:=by have m:=(ah.1 a).1;rw[<- kD i l,List.findSome?_append,d,cL m,pW,(ah.1 a).2,g];rfl
theorem Yg{f:α->Option β}(g:l[i]?=σ x)(a:(l.take i).findSome? f=ν)(d:f x=ν):(l.take (i+1)).findSome? f=ν:=by rw[bS,g,List.findSome?_append,a];simp[d]
theorem abW{f:α->Bool}(a:l[i]?=σ x)(d:(l.take i).find? f=ν)(g:f x=true):l.find? f=σ x:=by have m:=(ah.1 a).1;rw[<- kD i l,vX,d,cL m,(ah.1 a).2,List.find?_cons_of_pos g];rfl
theorem Yh{f:α->Bool}(g:l[i]?=σ x)(a:(l.take i).find? f=ν)(d:f x=false):(l.take (i+1)).find? f=ν:=by rw[bS,g,vX,a];simp[d]
end
def Right(cy:Δ bU)(r:oE)(j:Nat):Prop:=((r.ew.zip cy).take j).find? (λp=>decide (p.1.kind≠-1/\p.1.kind≠(p.2.2:Int)))=ν
section
variable {cy:Δ bU} {r:oE} {j:Nat} {v:xY} {c:bU}
theorem Right.zero:Right cy r 0:=rfl
theorem Right.aK(a:Right cy r j)(m:r.ew[j]?=σ v)(d:cy[j]?=σ c)(g:¬(v.kind≠-1/\v.kind≠(c.2:Int))):Right cy r (j+1):=
 Yh (x:=(v,c)) (by rw[pM];exact⟨m,d⟩) a (aV g)
theorem Right.cQ(a:Right cy r j)(m:Λ r.ew=Λ cy)(o:r.ew[j]?=σ v)(d:cy[j]?=σ c)(g:v.kind≠-1/\v.kind≠(c.2:Int)):lU cy r=σ v.pl:=by unfold lU;rw[aH (λa=>a m),abW (x:=(v,c)) (by rw[pM];exact⟨o,d⟩) a (cJ g)];rfl
theorem Right.all(a:Right cy r j)(d:Λ r.ew=Λ cy)(g:Λ r.ew<=j):lU cy r=ν:=by unfold lU;unfold Right at a;rw[aQ (by rw[List.length_zip];omega)]at a;rw[aH (λa=>a d),a];rfl
theorem afQ(a:Λ r.ew≠Λ cy):lU cy r=σ r.pl:=aN a
end
section
variable {X:Nat->Prop} {w:ω} {p bz k:Nat} {ts:Δ gP} {gs:Δ iz} {t:gP}
theorem lC.ah8(G:lC X w p ts gs bz)(C:ts[k]?=σ t):∃(a cap:Nat) (u:υ) (d:Option Addr) (g:Nat) (o:Option Addr) (s:Nat),w.heap[p]?=σ (ξ #[ψ (σ (Ad a 0)) (Λ ts) cap,u,ι κ bz] 100 (0,0))/\t.cv=ψ d (Λ t.cy) g/\t.rv=ψ o (Λ t.ry) s/\∀wr,Below w.heap.size w wr->Ξ wr (Ad p 0)=σ (ψ (σ (Ad a 0)) (Λ ts) cap)/\Ξ wr (Ad a (k*3+1))=σ (ψ d (Λ t.cy) g)/\Ξ wr (Ad a (k*3+2))=σ (ψ o (Λ t.ry) s)/\wr.frozen? (Ad a (k*3+2))=false/\p<wr.heap.size/\a<wr.heap.size:=by obtain⟨Q,u,y,z,-,-,-⟩:=G.cell;have T:=(ah.1 C).1;have D:=(G.held w (bu.refl _ _)).1 t (aq C);have⟨d,g,E⟩:=D.rel.hc.slice;have⟨o,s,F⟩:=D.rel.hr.slice;obtain⟨a,cap,rfl⟩:∃a cap,Q=ψ (σ (Ad a 0)) (Λ ts) cap:=(by obtain⟨R,P,c,e,-⟩:=aS.at (aS.dE z) (by omega);rcases z.2 with⟨m,-⟩|⟨N,M,cur,m,-⟩;{rw[e]at m;cases m};exact⟨N,M,m⟩);refine⟨a,cap,u,d,g,o,s,y,E,F,λwr A=>?_⟩;have H:=cO z A;obtain⟨b,P,c,e,O,-,I,K⟩:=G7 (aS.dE H) C;cases e;rw[E]at I;rw[F]at K;have L:=aA y;exact⟨bB ((A.block p L).trans y) 0,by simpa using I,by simpa using K,H.frozenAt _,aw L A.size,O⟩
end
section
variable {X:Nat->Prop} {w:ω} {p bz:Nat} {ts:Δ gP} {gs:Δ iz} {c:rF} {cy:Δ (Nm×Nat)}
theorem Qb(Y:lC X w p ts gs bz)(bl:nD c.nv/\nD c.kv/\nD c.rv/\nD c.sv/\nD c.ov)(hn:aS w 2 c.nv (Λ cy) (iA (cy.map Prod.fst)))(hk:aS w 1 c.kv (Λ cy) (Fa cy))(hl:Λ cy<=1000)(hz:∀x∈cy,x.1.1.size<=1000000000):Calls prog 41 #[π (σ (Ad p 0)),.agg (jT c).toArray] w λr w'=>∃cv,CK X w p bz w' r (tf ts gs c.tj cy cv):=by
 have⟨W,hW⟩:=nm (w.alloc (ξ (jT c).toArray 41));have N:=(Bx.start w).new (jT c).toArray 41;rw[<- hW]at N;have HW:=ak hW;have a6:=ak N;have M:=ak Y;have Sr:=ak (wW (Y.TT.aU N.lo (ae _)) c.tj.1);obtain⟨-,-,⟨qa,qn,qc,be⟩,⟨sa,sn,sc,G8⟩,oa,on,oc,Gx⟩:=bl;obtain⟨na,Z,ad⟩:=aS.slice hn;obtain⟨ia,ic,Kk⟩:=aS.slice hk;have a3:=ak hn;have Dn:=ak hk;have HZ:=ak hz;obtain⟨k0,kl,-⟩:=N.box (i:=0) rfl;obtain⟨d0,d1,d2,d3,d4,d5,d6,d7,d8,d9,b0⟩:=E7 k0;have Nn:=Y.len.1;have⟨gx,Kj⟩:=nm (ts.findIdx? (λx=>ct x.aI c.tj.1));have LR:=ak Kj;rw[<- Kj]at Sr;have DH:prog.follows .mixedOrders=true:=by kernel_rfl
 have a1:=ak (λwr (ao:Δ It) (a:Bx w wr ao) (i:Nat) (C:ao[i]?=σ (.inl (w.heap.size,(jT c).toArray,41)))=>(show Ξ wr (Ad w.heap.size 5)=σ (ψ na (Λ cy) Z)/\Ξ wr (Ad w.heap.size 6)=σ (ψ ia (Λ cy) ic)/\w.heap.size<wr.heap.size from by
  obtain⟨h1,h2,-⟩:=a.box C;exact⟨ad ▸ bB h1 5,Kk ▸ bB h1 6,h2⟩))
 have ab:=ak (And.intro ad Kk);clear Y hW N k0 Kj hn hk hz;unfold jT at HW ⊢;rw[ad,Kk,be,G8,Gx]at HW ⊢;go_in;go_wp21;rw[<- HW.J];go_wp21;refine Sr.J.mono ?_;rintro r F ⟨rfl,U⟩;have e1:=(U.cell (p:=Ad w.heap.size 1) kl).trans d1;have e2:=(U.cell (p:=Ad w.heap.size 2) kl).trans d2;have FV:=ak (a6.J.call U);have KB:=aw kl U.size;cases gx with
 |some k=>rw[show zG (σ k)=(k:Int)from rfl];go_wp2;go_quiet(fail);all_goals (try go_wp2);go_ret2;refine⟨ψ ν 0 0,?_⟩;unfold tf;rw[<- LR.J];simp only[Option.isSome_some,if_true];exact M.J.same (below_drewN FV.J.lo _) _ _
 |none=>
  rw[show zG ν=-1 from rfl];have a4:Hid (∀x∈ts,ct x.aI c.tj.1=false):=ak (λx Q=>by have:=eA.1 LR.J.symm x Q;simpa using this);have aa:=ak (λcv=>show tf ts gs c.tj cy cv=match ru [] (cy.map Prod.fst)with|some q=>((ts,gs),6,q)|none=>if 4<=Λ ts\/5<Λ cy then((ts,gs),8,0)else((ts++[⟨c.tj.1,cy.map (λc=>(c.1.1,c.2)),[],cv,ψ ν 0 0⟩],gs),0,0)by unfold tf;rw[<- LR.J];rfl);have⟨W2,ym⟩:=nm (F.alloc (ξ #[θ c.tj.1,ψ ν 0 0,ψ ν 0 0] 149));have S2:=(FV.J.new #[θ c.tj.1,ψ ν 0 0,ψ ν 0 0] 149).nil 152 2;rw[<- ym]at S2;have LH:=ak S2;have yn:=ak ym;go_wp2;rw[<- yn.J];go_loopw[7] (λci wr=>∃(i:Nat) (m:Option Addr) (o:Nat),i<=Λ cy/\ci=ι κ i/\Hid (Bx w wr [.inr (ψ m i o,152,2,i,((cy.take i).map (λc=>(c.1.1,c.2))).flatMap fP),.inl (F.heap.size,#[θ c.tj.1,ψ m i o,ψ ν 0 0],149),.inl (w.heap.size,(jT c).toArray,41)]/\ru ((cy.map Prod.fst).take i) ((cy.map Prod.fst).drop i)=ru [] (cy.map Prod.fst))) (λc _=>Λ cy - (intOf c).toNat);case atStart=>exact⟨0,ν,0,aB _,rfl,ak ⟨LH.J,rfl⟩⟩
  case round=>
   obtain⟨i,m,o,C,rfl,s⟩:=hrel;obtain⟨q5,q6,ql⟩:=a1.J wr _ s.J.1 2 rfl;obtain⟨t0,tl,-⟩:=s.J.1.box (i:=1) rfl;have y0:=bB t0 0;have y1:=bB t0 1;have y2:=bB t0 2;simp only[List.getElem?_toArray,List.getElem?_cons_zero,List.getElem?_cons_succ]at y0 y1 y2;have bt:=jd t0 1;by_cases cK:i<Λ cy
   .have gY:=aX.2 cK;obtain⟨x,CJ⟩:∃x,cy[i]?=σ x:=⟨_,af cK⟩;have wC:(cy.map Prod.fst)[i]?=σ x.1:=(by rw[bp,CJ];rfl);have ax:=aS.aU a3.J s.J.1.lo (ae _);have bg:=aS.aU Dn.J s.J.1.lo (ae _);obtain⟨u,z,bH,aT,-,ai,T3⟩:=aS.at ax (by omega);obtain⟨D,E,ku,Yp,-,OI,bi⟩:=aS.at bg (by omega);rw[ab.J.1]at aT;rw[ab.J.2]at Yp;cases aT;cases Yp;have n0:Ξ wr (Ad u (z+i*2))=σ (θ x.1.1):=T3 _ _ ((cV rG 2 (λ_=>rfl) _ wC (j:=0) (by decide)).trans rfl);have n1:Ξ wr (Ad u (z+i*2+1))=σ (ι κ x.1.2):=T3 _ _ ((cV rG 2 (λ_=>rfl) _ wC (j:=1) (by decide)).trans rfl);have v0:Ξ wr (Ad D (E+i))=σ (ι κ x.2):=bi _ _ (by unfold Fa;rw[bp,CJ];rfl);have T:=ak (A6 (cy.map Prod.fst) (ψ (σ (Ad u z)) (Λ cy) Z) i x.1 wr (by rw[<- ab.J.1];unfold rB;rw[bk];exact ax) wC (by rw[bk];omega));have lj:=ak (T0 wC);have a9:=ak CJ;go_wp21;refine T.J.mono ?_;rintro r K ⟨rfl,A⟩;have⟨ag,aC⟩:=nm (((cy.map Prod.fst).take i).any λbo=>ct bo.1 x.1.1);rw[<- aC]at lj ⊢;have KC:=ak (s.J.1.call A);have z5:=(A.cell (p:=Ad w.heap.size 5) ql).trans q5;have z6:=(A.cell (p:=Ad w.heap.size 6) ql).trans q6;have bv:=(A.cell (p:=Ad u (z+i*2)) ai).trans n0;have b3:=(A.cell (p:=Ad u (z+i*2+1)) ai).trans n1;have bx:=(A.cell (p:=Ad D (E+i)) OI).trans v0;have zl:=aw ql A.size;have bc:=aw ai A.size;have bd:=aw OI A.size;clear aC A y0 y1 y2 bt n0 n1 v0 q5 q6;cases ag
    .have ba:=ak (λ(X:ω) (hX:Below K.drew.heap.size K.drew X)=>(show Ξ X (Ad F.heap.size 1)=σ (ψ m i o)/\Ξ X (Ad w.heap.size 5)=σ (ψ (σ (Ad u z)) (Λ cy) Z)/\Ξ X (Ad u (z+i*2))=σ (θ x.1.1)/\Ξ X (Ad w.heap.size 6)=σ (ψ (σ (Ad D E)) (Λ cy) ic)/\Ξ X (Ad D (E+i))=σ (ι κ x.2)from
      have a:=(aP (aj K.heap.size K)).trans hX;have ht:=KC.J.box (i:=1) rfl
      ⟨(a.cell (p:=Ad F.heap.size 1) ht.2.1).trans (bB ht.1 1),(a.cell (p:=Ad w.heap.size 5) zl).trans z5,(a.cell (p:=Ad u (z+i*2)) bc).trans bv,(a.cell (p:=Ad w.heap.size 6) zl).trans z6,(a.cell (p:=Ad D (E+i)) bd).trans bx⟩))
     have a2:=ak (λ(X:ω) (hX:Below K.heap.size K X) (l:Nat) Q=>KC.J.more (X:=X) (l:=l) (cs:=#[θ x.1.1,ι κ x.2]) hX Q (by omega));obtain⟨i0,px,lB,ll,kV⟩:=gq Tryz.yi;go_wp2;refine wp_region_noPanic ?_;refine qC (n:=16) (m:=4) (z:=79) [.is (π (σ (Ad F.heap.size 1))),.is (π (σ (Ad F.heap.size 1))),.is (ψ m i o),.is (π (σ (Ad w.heap.size 5))),.is (ψ (σ (Ad u z)) (Λ cy) Z),.is (ι κ i),.is (π (σ (Ad u (z+i*2)))),.is (π (σ (Ad u (z+i*2)))),.is (θ x.1.1),.is (π (σ (Ad w.heap.size 6))),.is (ψ (σ (Ad D E)) (Λ cy) ic),.is (ι κ i),.is (π (σ (Ad D (E+i)))),.is (ι κ x.2),.is (.agg #[θ x.1.1,ι κ x.2]),Ke.one #[θ x.1.1,ι κ x.2] 152] DH rfl (by kernel_rfl) ⟨⟨⟨⟨⟨⟨⟨⟨⟨⟨⟨⟨⟨⟨⟨⟨trivial,?_⟩,?_⟩,?_⟩,?_⟩,?_⟩,?_⟩,?s6⟩,?_⟩,?_⟩,?_⟩,?_⟩,?_⟩,?s12⟩,?_⟩,?s14⟩,?s15⟩ ?fin;(case s6=>refineλρ lo C X a ⟨(e:ρ (.tmp 42)=_),(e1:ρ (.tmp 43)=_),_⟩=>dU (w':=X) ?_ ⟨rfl,aj _ _⟩;go_simp);(case s12=>refineλρ lo C X a ⟨(e:ρ (.tmp 48)=_),(e1:ρ (.tmp 49)=_),_⟩=>dU (w':=X) ?_ ⟨rfl,aj _ _⟩;go_simp);(case s14=>refineλρ lo C X a ⟨(e:ρ (.tmp 46)=_),(e1:ρ (.tmp 51)=_),_⟩=>dU (w':=X) ?_ ⟨rfl,aj _ _⟩;go_simp);(case s15=>refineλρ lo C X a ⟨(e:ρ (.tmp 52)=_),_⟩=>dU (w':=X.alloc (ξ #[θ x.1.1,ι κ x.2] 152)) ?_ ⟨⟨by simp,rfl,az _ _⟩,(aj _ _).alloc (ae _) _⟩;go_simp);(case fin=>intro val lo C X a d _;obtain⟨⟨-,ar,ap⟩,-⟩:=d 15 (by decide);have G:=ak (a2.J X a _ ap);simp[qg,jw,Act.put,tB d 0 rfl,tB d 1 rfl,tB d 2 rfl,tB d 3 rfl,tB d 4 rfl,tB d 5 rfl,tB d 6 rfl,tB d 7 rfl,tB d 8 rfl,tB d 9 rfl,tB d 10 rfl,tB d 11 rfl,tB d 12 rfl,tB d 13 rfl,tB d 14 rfl,ar];refine Nh (i:=16) (by kernel_rfl) rfl rfl (wp_append_lies X (.tmp 40) (.tmp 53) 139 rfl w.heap.size 152 i0 _ 2 24 underlying139 px lB ll kV rfl (by decide) (ψ m i o) i (((cy.take i).map (λc=>(c.1.1,c.2))).flatMap fP) (by simp[Act.eval]) G.J.1 (Ad (lo 15) 0) 1 1 [θ x.1.1,ι κ x.2] (by simp[Act.eval]) rfl G.J.2.1 (by simp[Value.oneCell']) (by decide) G.J.2.2.1 (G.J.2.2.2.1 24 (by decide)) G.J.2.2.2.2.1 X.heap.size rfl ?_);intro H V we R I L _;have Kl:=ak (G.J.2.2.2.2.2 H V we R I L);obtain⟨TP,b1,-⟩:=Kl.J.box (i:=1) rfl;have k5:=bB TP 1;have bn:=jd TP 1;simp only[List.getElem?_toArray,List.getElem?_cons_zero,List.getElem?_cons_succ]at k5;clear R I L TP ap a d ar;refine oy (i:=17) (by kernel_rfl) rfl rfl (dU (w':=we) (by go_simp;with_reducible rfl) ?_);refine oy (i:=18) (by kernel_rfl) rfl rfl (dU (w':=we) (by go_simp;with_reducible rfl) ?_);refine oy (i:=19) (by kernel_rfl) rfl rfl ?_;unfold me;go_simp;refine uQ (by kernel_rfl) (NoPanic.normal ?_) _;go_wp2;refine⟨⟨i+1,σ (Ad H 0),V,by omega,by go_num,ak ⟨?_,by rw[<- s.J.2,lj.J];rfl⟩⟩,by simp[intOf];omega⟩;have S6:=(Kl.J.perm (List.Perm.swap _ _ _)).put 1 (ψ (σ (Ad H 0)) (i+1) V) |>.perm (List.Perm.swap _ _ _);rw[bS,a9.J,cT,cX];exact S6);all_goals refineλρ lo C X a ⟨(e:ρ _=_),_⟩=>dU (w':=X) ?_ ⟨rfl,aj _ _⟩;obtain⟨x1,x2,x3,x4,x5⟩:=ba.J X a;go_simp
    go_wp2;go_quiet(fail);all_goals (try go_wp2);go_ret2;refine⟨ψ ν 0 0,?_⟩;rw[aa.J,<- s.J.2,lj.J];exact M.J.same (below_drewN KC.J.lo _) _ _
   obtain rfl:i=Λ cy:=(by omega);have av:=M.J.aU s.J.1.lo;obtain⟨tv,gv,O,c3,-,c4,-⟩:=av.cell;obtain⟨ga,gk,rfl⟩:=aS.slice (aS.dE c3);have a8:=ak (λg (e:(Value.slice ga (Λ ts) gk).ownBlock=σ g)=>(c4 g e).2);have p0:=bB O 0;simp only[List.getElem?_toArray,List.getElem?_cons_zero]at p0;have b2:=jd O 0;have zi:=aA O;have OO:=ak O;have a0:=ak c3;have T:Hid (ru [] (cy.map Prod.fst)=ν):=ak (by rw[<- s.J.2,iK (by simp)];rfl);clear av O c3 c4;by_cases xe:4<=Λ ts\/5<Λ cy;{have HF:=ak xe;by_cases h4:4<=Λ ts;(case' pos=>have g1:(4:Int)<=Λ ts:=by omega);(case' neg=>have g1:¬(4:Int)<=Λ ts:=(by omega);have H:(5:Int)<Λ cy:=by omega);all_goals go_wp2;go_ret2;refine⟨ψ ν 0 0,?_⟩;rw[aa.J,T.J];dsimp only;rw[aN HF.J];exact M.J.same s.J.1.lo _ _}
   have HF:=ak xe;have g1:¬(4:Int)<=Λ ts:=(by omega);have H:¬(5:Int)<Λ cy:=(by omega)
   have Gw:=ak (show Bx w wr [.inr (ψ m (Λ cy) o,152,2,(cy.map (λc=>(c.1.1,c.2))).length,(cy.map (λc=>(c.1.1,c.2))).flatMap fP),.inl (F.heap.size,#[θ c.tj.1,ψ m (Λ cy) o,ψ ν 0 0],149),.inl (w.heap.size,(jT c).toArray,41)]by
    have h9:=s.J.1;rw[eF]at h9;rw[bk];exact h9)
   have a7:Hid (Small (cy.map (λc=>(c.1.1,c.2)))/\(cy.map (λc=>(c.1.1,c.2))).length<=5):=ak ⟨λx Q=>by obtain⟨y,hy,rfl⟩:=cP.1 Q;exact HZ.J y hy,by rw[bk];omega⟩;obtain⟨i0,px,lB,ll,kV⟩:=gq Tryz.abU;have⟨ac,P⟩:=nm (wr.alloc (ξ #[θ c.tj.1,ψ m (Λ cy) o,ψ ν 0 0] 149)).drew;have a:Below wr.heap.size wr ac:=(by rw[P];exact aP ((aj _ _).alloc (ae _) _));have vB:=ak (show ac.heap[wr.heap.size]?=σ (ξ #[θ c.tj.1,ψ m (Λ cy) o,ψ ν 0 0] 149 (0,0))by rw[P];exact az wr _);have L5:=ak (show ac.heap.size=wr.heap.size+1 by rw[P];show(wr.heap.push _).size=_;rw[gJ]);have an:=ak a;have a5:=ak (cO a0.J a);have am:=ak ((a.block p zi).trans OO.J);have bb:=ak P;clear xe a P;go_wp2;go_region_law(rw[<- bb.J];refine step_append_lies _ rfl (.tmp 73) (.tmp 75) 97 rfl 0 149 i0 _ 3 64 underlying97 px lB ll kV rfl (by decide) (ψ ga (Λ ts) gk) (Λ ts) (ts.flatMap vD) (by simp[Act.eval]) a5.J (Ad wr.heap.size 0) 1 1 [θ c.tj.1,ψ m (Λ cy) o,ψ ν 0 0] (by simp[Act.eval];done) rfl (World.news_of_block vB.J) (by simp[Value.oneCell']) (by decide) (by unfold maxLen;omega) (by omega) (aB _) (wr.heap.size+1) L5.J ?_;intro H V we R I L _;have al:=(I.block p (aw zi an.J.size) (λe=>(a8.J p e.symm) rfl)).trans am.J;have yr:=ak (M.J.one (Gw.J.call an.J) am.J R I (L.imp id λe=>by rw[L5.J,e];exact ae _) a7.J (by omega) a4.J);have k5:=bB al 0;have bn:=jd al 0;simp only[List.getElem?_toArray,List.getElem?_cons_zero]at k5;clear R I L al);all_goals (try go_wp2);go_ret2;refine⟨ψ m (Λ cy) o,?_⟩;rw[aa.J,T.J];dsimp only;rw[aH HF.J];exact yr.J
end
def KN(c:rF)(pR:Δ Nm)(e:Ex)(ns:Δ cz)(cv:υ):iz:=⟨c.uz.1,c.tj.1,pR.map Prod.fst,e,ns,cv,c⟩
def Il(ts:Δ gP)(gs:Δ iz)(c:rF)(pR:Δ Nm)(e:Ex)(f:Nat)(ns:Δ cz)(cv:υ):(Δ gP×Δ iz)×Nat×Nat:=match ts.findIdx? (λx=>ct x.aI c.tj.1)with
 |none=>((ts,gs),5,c.tj.2)
 |some k=>match ts[k]? with
   |none=>((ts,gs),0,0)
   |some x=>if(gV x.cy [] pR).1≠0 then((ts,gs),gV x.cy [] pR)else if(oV x.cy e f).1≠0 then((ts,gs),oV x.cy e f)else match gs.findIdx? (λg=>ct g.uz c.uz.1&&ct g.tj c.tj.1)with
     |some j=>((ts,gs.set j (KN c pR e ns cv)),0,0)
     |none=>if 8<=Λ gs then((ts,gs),8,0)else((ts,gs++[KN c pR e ns cv]),0,0)
theorem Yi{cy:Δ bU}{l:Δ Nm}{i:Nat}{n:Nm}(a:l[i]?=σ n):gV cy (l.take i) (l.drop i)=if cy.any (λc=>ct c.1 n.1)then(if(l.take i).any (λm=>ct m.1 n.1)then(6,n.2)else gV cy (l.take (i+1)) (l.drop (i+1)))else(5,n.2):=by have⟨d,g⟩:=ah.1 a;rw[cL d,g,gV,bS,a];rfl
theorem Im{cy:Δ bU}:∀(l seen:Δ Nm),(gV cy seen l).1=0->(l.map Prod.fst).Pairwise (λu b=>ct u b=false)/\∀n∈l,∀a∈seen,ct a.1 n.1=false
 |[],_,_=>⟨.nil,λ_ d=>(by cases d)⟩
 |n::l,seen,d=>by
   unfold gV at d;split at d
   . split at d
     . cases d
     . rename_i A
       have⟨y,o⟩:=Im l (seen++[n]) d;have s:∀a∈seen,ct a.1 n.1=false:=λa g=>by
        cases he:ct a.1 n.1
        . rfl
        . exact absurd (kM.2 ⟨a,g,he⟩) A
       refine⟨bE.2 ⟨λb z=>?_,y⟩,λx m a g=>?_⟩
       . obtain⟨D,C,rfl⟩:=cP.1 z
         exact o D C n (bA.2 (.inr (bj.2 rfl)))
       . rcases bV.1 m with rfl|m
         . exact s a g
         . exact o x m a (bA.2 (.inl g))
   . cases d
theorem DT{cy:Δ bU}:(mI cy s<0)=(cy.any (λc=>ct c.1 s)=false):=by
 unfold mI wP;cases h:cy.findIdx? (λc=>ct c.1 s)with
 |none=>exact propext ⟨λ_=>by rw[jh];intro c m;simpa using eA.1 h c m,λ_=>by decide⟩
 |some i=>exact propext ⟨λa=>by have d:((i:Nat):Int)<0:=a;omega,λa=>by
    obtain⟨g,d,-⟩:=aR.1 h;exact absurd (jh.1 a _ (ej g)) (by simpa using d)⟩
theorem PU{ts:Δ gP}{x t:gP}(m:ts.Pairwise λA b=>ct A.aI b.aI=false)(G:x∈ts)(F:t∈ts)(o:ct x.aI s=true)(u:ct t.aI s=true):t=x:=by
 have e:ct x.aI t.aI=true:=by rw[cD.1 o,cD.1 u];exact cD.2 rfl
 have C:ct t.aI x.aI=true:=by rw[cD.1 o,cD.1 u];exact cD.2 rfl
 have⟨i,D⟩:=cB G;have⟨j,E⟩:=cB F;have⟨y,d⟩:=ah.1 D;have⟨z,g⟩:=ah.1 E;rcases vZ i j with a|rfl|a
 {have:=iV.1 m i j y z a;rw[d,g,e]at this;cases this};{exact g.symm.trans d};have:=iV.1 m j i z y a;rw[d,g,C]at this;cases this
theorem afR{cy:Δ bU}{e:Ex}{f:Nat}(a:(oV cy e f).1=0):dp cy e=.inl 2:=by unfold oV at a;cases hk:dp cy e with|inr q=>rw[hk]at a;exact absurd a (kG hk)|inl k=>rw[hk]at a;by_cases d:k=2;{rw[d]};simp[d]at a
section
variable {X:Nat->Prop} {w W:ω} {p bz:Nat} {ts:Δ gP} {gs:Δ iz} {c:rF} {pR:Δ Nm} {e:Ex} {f:Nat} {ns:Δ cz} {cv:υ}
theorem lC.aoc(s:lC X w p ts gs bz){g:Δ It}{i:Nat}(S:Bx w W g)(G:g[i]?=σ (.inr (cv,9,1,Λ pR,(pR.map Prod.fst).map .string)))(I:∀m,bu (Out X w) w m->aS m 7 c.ov (Λ ns) (kZ ns))(a:nD c.nv/\nD c.kv/\nD c.rv/\nD c.sv/\nD c.ov)(u:Ky ns c.cond (e,f))(K:Ks e)(H:Λ pR<=302){x:gP}{k:Nat}(M:ts[k]?=σ x)(N:ct x.aI c.tj.1=true)(C:(gV x.cy [] pR).1=0)(D:(oV x.cy e f).1=0):∀w',bu (Out X W) W w'->DGr w' ts (KN c pR e ns cv):=λw' d=>by
 have y:=S.row G;refine⟨?_,(Im pR [] C).1,by show(pR.map Prod.fst).length<=302;rw[bk];exact H,I w' (uG (wY S.lo) (λ_=>.inl) d),K,⟨u.1,u.2.1⟩,⟨a.1,a.2.1,a.2.2.1,a.2.2.2.1⟩,λt L F=>?_⟩
 . show aS w' 1 cv (pR.map Prod.fst).length ((pR.map Prod.fst).map .string)
   rw[bk];refine aS.stays (aS.dE y) d.size λo P A=>d.block o.block ?_;have⟨O,z⟩:=y.lt o.block (by rw[A];rfl);exact⟨z,λE=>by have:=s.Wm _ E;omega⟩
 . rw[PU s.inv.bJ (aq M) L N F]
   exact⟨2,afR D⟩
theorem lC.auB(g:lC X w p ts gs bz){W':ω}{g':iz}{b cap:Nat}(A:Below w.heap.size w W)(K:W.heap[p]?=σ (ξ #[m,u,ι κ bz] 100 (0,0)))(M:W'.ownsRow 0 155 14 (ψ (σ (Ad b 0)) (Λ gs+1) cap) (Λ gs+1) (gs.flatMap zZ++zZ g'))(z:W.grownBy W' (Ω u))(C:Ω u=σ b\/W.heap.size<=b)(hl:Λ gs<8)(U:∀x∈gs,(ct x.uz g'.uz&&ct x.tj g'.tj)=false)(Z:∃t∈ts,ct t.aI g'.tj=true)(Y:∀w',bu (Out X W) W w'->DGr w' ts g'):CK X w p bz (W'.setCell (Ad p 1) (ψ (σ (Ad b 0)) (Λ gs+1) cap)) (τ (.tuple #[ι κ 0,ι κ 0])) ((ts,gs++[g']),0,0):=by
 have⟨ab,aa,y,H,h3,E,s⟩:=g.cell;have zi:=aA y;have L:=K.symm.trans ((A.block p zi).trans y);simp only[Option.some.injEq,Obj.cells.injEq,Array.mk.injEq,List.cons.injEq,and_true]at L;obtain⟨rfl,rfl⟩:=L;have O:=A.size;have SD:=z.size;have F:b≠p:=C.elim (λe=>(s b e).2.1) (λe=>by omega);have tF:=(M.lt b rfl).2;have I:∀k,(X k\/k=b)->X k\/W.heap.size<=k:=λk a=>a.elim .inl λe=>C.elim (λo=>.inl (e ▸ (s b o).1)) (λo=>.inr (e ▸ o));have T:=((bu.refl (Out X W) W).grown z (λk a=>a.1) (λk e a=>a.2 (s k e).1)).setCell (p:=Ad p 1) (λa=>a.2 g.xp) (ψ (σ (Ad b 0)) (Λ gs+1) cap);have V:W'.heap[p]?=W.heap[p]?:=z.block p (by omega) (λe=>(s p e.symm).2.1 rfl);refine g.renew (X':=λk=>X k\/k=b) (tv:=m) (gv:=ψ (σ (Ad b 0)) (Λ gs+1) cap) (((qQ A).grown z (λk a=>aw a.1 O) (λk e a=>a.2 (.inr ⟨_,_,_,y,.inr e⟩))).setCell (p:=Ad p 1) (λa=>a.2 (.inl rfl)) _) (λk e=>e.elim (λe=>.inl (.inr ⟨_,_,_,y,.inl e⟩)) (λe=>(show b=k from bh e) ▸ C.elim (λe=>.inl (.inr ⟨_,_,_,y,.inr e⟩)) (λe=>.inr (by omega)))) (by simpa using bq W' p 1 _ _ (ψ (σ (Ad b 0)) (Λ gs+1) cap) (V.trans K)) (bO (eG (cO H A) z λk e D=>(s k e).2.2 D) (λe=>(E p e).2 rfl) _) (by
  rw[au,cX];exact bO (by simpa using M) (λe:(Value.slice (σ (Ad b 0)) (Λ gs+1) cap).ownBlock=σ p=>F (bh e)) _) (λk a=>(I k a).imp id (ay O)) (λk=>.inl) (λk e=>⟨.inl (E k e).1,(E k e).2⟩) (λk e=>?_) ⟨g.len.1,by simp;omega⟩ ⟨λx d=>?_,g.inv.bJ,?_⟩ (λk a=>by simp only[World.setCell,Array.size_modify];exact a.elim (λo=>by have:=g.Wm k o;omega) (λe=>e ▸ tF)) (λw' N j6=>⟨(g.held w' N).1,λx d=>?_⟩)
 {have D:b=k:=bh e;subst D;exact⟨.inr rfl,F,λG=>C.elim (λQ=>(s b Q).2.2 G) (λo=>by have:=(H.lt b G).2;omega)⟩};{rcases bA.1 d with d|d;{exact g.inv.tied x d};cases bj.1 d;exact Z};{exact jG.2 ⟨g.inv.keys,nK _ _,λP R x d=>by cases bj.1 d;exact U P R⟩};rcases bA.1 d with d|d;{exact(g.held w' N).2 x d};cases bj.1 d;exact Y w' (uG T I j6)
theorem lC.auD(z:lC X w p ts gs bz):∃(a:Option Addr) (cap:Nat) (m:υ),w.heap[p]?=σ (ξ #[m,ψ a (Λ gs) cap,ι κ bz] 100 (0,0))/\(0<Λ gs->∃b,a=σ (Ad b 0))/\(∀b,a=σ (Ad b 0)->b≠p)/\∀wr,Below w.heap.size w wr->Ξ wr (Ad p 1)=σ (ψ a (Λ gs) cap)/\wr.frozen? (Ad p 1)=false/\p<wr.heap.size/\wr.heap[p]?=σ (ξ #[m,ψ a (Λ gs) cap,ι κ bz] 100 (0,0))/\wr.ownsRow 0 155 14 (ψ a (Λ gs) cap) (Λ gs) (gs.flatMap zZ):=by obtain⟨m,F,o,-,s,-,A⟩:=z.cell;obtain⟨a,cap,rfl⟩:=aS.slice (aS.dE s);have C:=aA o;refine⟨a,cap,m,o,λG=>?_,λb e=>(A b (by rw[e];rfl)).2.1,λwr u=>?_⟩;{rcases s.2 with⟨d,E⟩|⟨y,D,cur,d,-⟩;{simp only[Value.slice.injEq]at d;omega};simp only[Value.slice.injEq]at d;exact⟨y,d.1⟩};have g:=(u.block p C).trans o;exact⟨bB g 1,jd g 1,aA g,g,cO s u⟩
def gA(c:rF)(v:υ):Array υ:=(Value.string c.uz.1::θ c.tj.1::v::jT c).toArray
theorem c14{b:Nat}{s A C:υ}(a:o.heap[b]?=σ (ξ #[m,u,y,z,d,P,M,V,N,L,I,s,A,C] g (0,0))):Ξ o (Ad b 0)=σ m/\Ξ o (Ad b 1)=σ u/\Ξ o (Ad b 2)=σ y/\Ξ o (Ad b 3)=σ z/\Ξ o (Ad b 4)=σ d/\Ξ o (Ad b 5)=σ P/\Ξ o (Ad b 6)=σ M/\Ξ o (Ad b 7)=σ V/\Ξ o (Ad b 8)=σ N/\Ξ o (Ad b 9)=σ L/\Ξ o (Ad b 10)=σ I/\Ξ o (Ad b 11)=σ s/\Ξ o (Ad b 12)=σ A/\Ξ o (Ad b 13)=σ C:=
 ⟨bB a 0,bB a 1,bB a 2,bB a 3,bB a 4,bB a 5,bB a 6,bB a 7,bB a 8,bB a 9,bB a 10,bB a 11,bB a 12,bB a 13⟩
theorem c11{b:Nat}(a:o.heap[b]?=σ (ξ #[m,u,y,z,d,P,M,V,N,L,I] g (0,0))):Ξ o (Ad b 0)=σ m/\Ξ o (Ad b 1)=σ u/\Ξ o (Ad b 2)=σ y/\Ξ o (Ad b 3)=σ z/\Ξ o (Ad b 4)=σ d/\Ξ o (Ad b 5)=σ P/\Ξ o (Ad b 6)=σ M/\Ξ o (Ad b 7)=σ V/\Ξ o (Ad b 8)=σ N/\Ξ o (Ad b 9)=σ L/\Ξ o (Ad b 10)=σ I:=
 ⟨bB a 0,bB a 1,bB a 2,bB a 3,bB a 4,bB a 5,bB a 6,bB a 7,bB a 8,bB a 9,bB a 10⟩
end
