import Derived.Test.YtfeckmaleonjjaaGreatDoorFCR
import Derived.Deep.DeepCutAuto
set_option maxHeartbeats 0
set_option maxRecDepth 100000
namespace Go.Proofs.YtfeckmaleonjjaaGreatDoor
open List renaming length→Λ
open Go.RowKit
open _root_.Go.Proofs.Tryz
open Option renaming some→σ,none→ν
open Go.IntKind renaming i64→κ
open Go.Obj renaming cells→ξ
open Go.RowKit renaming Below→δ
open Go.Value renaming int→ι,string→θ,slice→ψ,pointer→π,agg→χ
section
open Go.Maps
theorem adQ{i:zr}{e:World}{v mt mg:Nat}{P:Nat->Prop}{p:Δ (Lit×iU)}{s:Δ (Lit×pL)}(h:dH i e v mt mg P p s){f:Nm}(ht:nF f){ry:Δ oE}(bz:ry≠[])(OH:∀c∈ry,uy c)(EJ:Λ ry<=302){a9:Value}{d:Δ (Nat×Value)}(hv:aS e 2 a9 (Λ d) (Cf d))(x:Each (λQ c=>Q.1=c.pl/\aS e 5 Q.2 (Λ c.ew) (De (c.ew.map tW))) d ry) :
 Calls prog 271 #[χ #[θ f.1,ι κ f.2,a9],π (σ ⟨v,0,ν⟩)] e λc w'=>mB i e w' v mt mg P p (AK (dD p s) f ry) c:=by
 have Hk:f.1.size<=maxLen:=by have:=ht.1;unfold maxLen;omega
 have DK:Λ d=Λ ry:=x.len;obtain⟨K,H,rfl⟩:=aS.slice hv;obtain⟨W,hW⟩:∃W,W=(e.alloc (ξ #[θ f.1,ι κ f.2,ψ K (Λ d) H] 224)).alloc (ξ #[ι κ 0,ι κ 0] 77):=⟨_,rfl⟩;have pS:δ e.heap.size e W:=by rw[hW];exact((aj _ _).alloc (ae _) _).alloc (by simp) _
 have ES:W.heap.size=e.heap.size+2:=by rw[hW];simp
 have mo:W.heap[e.heap.size]?=σ (ξ #[θ f.1,ι κ f.2,ψ K (Λ d) H] 224 (0,0))/\W.heap[e.heap.size+1]?=σ (ξ #[ι κ 0,ι κ 0] 77 (0,0)):=(by rw[hW];have V:=az (e.alloc (ξ #[θ f.1,ι κ f.2,ψ K (Λ d) H] 224)) (ξ #[ι κ 0,ι κ 0] 77);rw[show(e.alloc (ξ #[θ f.1,ι κ f.2,ψ K (Λ d) H] 224)).heap.size=e.heap.size+1 by simp]at V;exact⟨(fY _ _ (by simp)).trans (az e _),V⟩)
 have M:=ak (λwr (l:δ W.heap.size W wr)=>(show dH i wr v mt mg P p s/\δ e.heap.size e wr/\wr.heap[e.heap.size]?=σ (ξ #[θ f.1,ι κ f.2,ψ K (Λ d) H] 224 (0,0))/\wr.heap[e.heap.size+1]?=σ (ξ #[ι κ 0,ι κ 0] 77 (0,0))/\aS wr 2 (ψ K (Λ d) H) (Λ d) (Cf d)/\Each (λQ c=>Q.1=c.pl/\aS wr 5 Q.2 (Λ c.ew) (De (c.ew.map tW))) d ry from by
  have I:=pS.trans (l.mono (by omega));exact⟨h.aU I,I,(l.block _ (by omega)).trans mo.1,(l.block _ (by omega)).trans mo.2,aS.aU hv I (ae _),x.mono (λQ _ k u=>⟨u.1,aS.aU u.2 I (ae _)⟩)⟩))
 have HW:=ak hW;obtain⟨X,-,C,g,-⟩:=M.J W (aj _ _);obtain⟨c0,c1,c2⟩:=bN C;obtain⟨f0,f1⟩:=bQ g;have z0:=jd g 0;have z1:=jd g 1;obtain⟨e0,e1,V,e3,e4,e5,e6,e7⟩:=eS X.jy;have cd:=aA X.jy;have EL:=aA C;have BT:=aA g;have Oo:=X.find Hk;have sd:=(X.aU (aP (aj _ _))).find Hk;have N:=ak h;have D:=ak g;have oZ:=ak pS;have L5:=ak ES;have E:=ak DK;have b1:Λ d<=302:=by rw[DK];exact EJ
 cases hg:fH p (tk f.1)with
 |none=>simp only[hg]at Oo sd;have BA:Hid (AK (dD p s) f ry=((5,f.2),dD p s)):=ak (by unfold AK dD;simp only;rw[jE,hg];rfl);clear h hW pS mo X C g hg ES hv x DK;go_in;go_wp2_with fail;rw[<- HW.J];go_region;all_goals (try go_wp2_with fail);obtain⟨⟨T,U⟩,d2⟩:=ie (w1:=W) oZ.J (dt _) D.J (ι κ 5) (ι κ f.2);refine aE (v:=χ #[ι κ 5,ι κ f.2]) (by simp[results,results271,go_sem,T,U];try rfl) rfl ?_;rw[BA.J];exact N.J.same (aP d2) (5,f.2) rfl
 |some a=>
  simp only[hg]at Oo sd;unfold iU.val at Oo sd;have ZF:(tk f.1,a)∈p:=mQ hg;have B:=X.tab _ ZF;obtain⟨ca,nj,Nk⟩:=B.Lc.slice;have bn:=ak Nk;obtain⟨sa,nZ,Wi,-,-⟩:=cR B.own;have bt:=ak Wi;obtain⟨z,hN⟩:∃z,z=Λ a.Cs.flatten:=⟨_,rfl⟩;have HT:=ak (λwr (l:δ W.heap.size W wr)=>(show wr.heap[a.q]?=σ (ξ #[ψ ca (Λ a.cy) nj,ψ sa (Λ a.Cs) nZ,ι κ (z:Nat)] 244 (0,0))/\eK wr (ψ ca (Λ a.cy) nj) a.cy from by
   have I:=(M.J wr l).1.tab _ ZF;rw[<- bn.J,<- bt.J,hN];exact⟨I.jy,I.Lc⟩))
  have h5:Λ a.cy<=5:=B.GQ.1;have cb:z<=64:=by rw[hN];exact B.few
  have aa:=ak (show nB a.cy a.Cs.flatten/\oi i.seg a.Cs/\(∀R∈a.cy,R.2<=2)/\0<Λ a.cy from⟨B.fit,B.chk,λR hc=>(B.GQ.2 R hc).2,B.c0⟩);have ab:=ak ZF;have O:Hid (AK (dD p s) f ry=match ry.findSome? (λc=>gH c a.cy)with|some k=>((7,k),dD p s)|none=>if 64<z+Λ ry then((8,0),dD p s)else((0,0),⟨wL (ik iU.told p) (tk f.1) (a.cy,a.Cs.flatten++ry.map JO),ik pL.told s⟩)):=ak (by
   unfold AK dD;simp only;rw[jE,hg,hN];rfl)
  have HN:=ak hN;obtain⟨F,Fg⟩:=HT.J W (aj _ _);obtain⟨q0,q1,q2⟩:=bN F;have F9:=aA F;clear h hW pS mo X C g hg ES hv x B Nk Wi F Fg ZF DK hN;go_in;go_wp2_with fail;rw[<- HW.J];go_region;all_goals
   (try go_wp2_with fail);have be:Hid (δ W.heap.size W W.drew):=ak (aP (aj _ _));clear Oo sd c0 c1 c2 f0 f1 z0 z1 e0 e1 V e3 e4 e5 e6 e7 q0 q1 q2;go_loopw[26] (λR wr=>∃o:Nat,o<=Λ d/\R=ι κ o/\Hid (ry.findSome? (λc=>gH c a.cy)=(ry.drop o).findSome? (λc=>gH c a.cy))/\Hid (δ W.heap.size W wr)) (λR _=>Λ d - (intOf R).toNat);(case atStart=>exact⟨0,aB _,rfl,ak rfl,be⟩);case round=>
    obtain⟨o,hi,rfl,aC,ui⟩:=hrel;obtain⟨ag,oX,C,g,La,ax⟩:=M.J wr ui.J;obtain⟨F,Fg⟩:=HT.J wr ui.J;by_cases cK:o<Λ d
    .have gY:(o:Int)<Λ d:=(by omega);obtain⟨m,CJ⟩:∃m,ry[o]?=σ m:=⟨_,af (by rw[<- E.J];exact cK)⟩;obtain⟨Q,KO,Tf,ai⟩:=Each.get ax CJ;have QW:=ak (OH m (aq CJ));have ac:Hid (ry.findSome? (λc=>gH c a.cy)=match gH m a.cy with|some k=>σ k|none=>(ry.drop (o+1)).findSome? (λc=>gH c a.cy)):=ak (by rw[aC.J,cL (by rw[<- E.J];exact cK),(ah.mp CJ).2,pW];cases gH m a.cy<;>rfl);obtain⟨vg,vo,MO,he,-,ce,u⟩:=aS.at La (by omega);cases he;obtain⟨ra,Ef,Kf⟩:=aS.slice ai;have x0:wr.cell? ⟨vg,vo+o*2,ν⟩=σ (ι κ m.pl):=(by have:=u (o*2) _ (cV Zt 2 (λ_=>rfl) d KO (j:=0) (by decide));rw[<- Tf];exact this);have x1:wr.cell? ⟨vg,vo+o*2+1,ν⟩=σ (ψ ra (Λ m.ew) Ef):=(by have:=u (o*2+1) _ (cV Zt 2 (λ_=>rfl) d KO (j:=1) (by decide));rw[<- Kf];exact this);rw[Kf]at ai;obtain⟨j,yQ⟩:∃j,j=wr.alloc (ξ #[ι κ m.pl,ψ ra (Λ m.ew) Ef] 219):=⟨_,rfl⟩;have lu:δ wr.heap.size wr j:=(by rw[yQ];exact(aj _ _).alloc (ae _) _);have mL:j.heap[wr.heap.size]?=σ (ξ #[ι κ m.pl,ψ ra (Λ m.ew) Ef] 219 (0,0)):=(by rw[yQ];exact az wr _);have an:=ui.J.trans (lu.mono ui.J.size);obtain⟨ao,a3⟩:=HT.J j an;obtain⟨q0,q1,q2⟩:=bN ao;obtain⟨k0,k1⟩:=bQ mL;have a4:=aA ao;have KB:=aA mL;have V3:=ak (λb (l:δ j.heap.size j b)=>RO (r:=m) (aS.aU ai (lu.trans (l.mono lu.size)) (ae _)) (aS.aU a3 l (ae _)) QW.J.2.2);obtain⟨r,t⟩:∃r,r=Vx (gH m a.cy):=⟨_,rfl⟩;rw[<- t]at V3;have HF:=ak t;have b0:(j.alloc (ξ #[ι κ 0,ι κ 0] 77)).drew.heap.size=j.heap.size+1:=(by show(j.heap.push _).size=_;rw[gJ])
     have xW:=ak (λb (l:δ (j.alloc (ξ #[ι κ 0,ι κ 0] 77)).drew.heap.size (j.alloc (ξ #[ι κ 0,ι κ 0] 77)).drew b)=>(show b.heap[j.heap.size]?=σ (ξ #[ι κ 0,ι κ 0] 77 (0,0))/\δ j.heap.size j b from
      ⟨(l.block j.heap.size (by omega)).trans (az j (ξ #[ι κ 0,ι κ 0] 77)),(aP ((aj j.heap.size j).alloc (ae _) _)).trans (l.mono (by omega))⟩))
     have RM:=ak an;have Ko:=ak yQ;clear ag oX C g La ax F Fg u yQ lu mL CJ KO Tf ai Kf ao a3 t b0 an;go_wp2_with fail;rw[<- Ko.J];clear x0 x1;go_cut[8] (λs8 Y=>∃b9,s8=π (σ ⟨b9,0,ν⟩)/\Hid (Y.heap[b9]?=σ (ξ #[ι κ r.1,ι κ r.2] 77 (0,0))/\δ j.heap.size j Y));case first=>
      go_region_law(refine lL rfl 270 _ _ rfl call270 #[χ #[ι κ m.pl,ψ ra (Λ m.ew) Ef],ψ ca (Λ a.cy) nj] (by first|(simp[Act.eval];done)|(simp[Act.eval,Act.put];done)|rfl) _ (V3.J _ (by first|exact aP (aj _ _)|exact aP ((aj _ _).alloc (ae _) _))) ?_;rintro a8 b ⟨rfl,g⟩;refine⟨_,rfl,?_⟩;(first|(have E5:=(xW.J b g).1;obtain⟨a0,a1⟩:=bQ E5;have ga:=λo=>jd E5 o;have V7:=ak E5;clear E5)|skip);have D:Hid (δ j.heap.size j b):=ak (by first|exact(aP (aj _ _)).trans g|exact(xW.J b g).2);clear g);(all_goals(try go_wp2_with fail));(all_goals go_meet);all_goals
       first
       |exact⟨_,rfl,ak ⟨az _ _,D.J.alloc D.J.size _⟩⟩
       |exact⟨_,rfl,ak ⟨bq _ _ 1 _ _ _ (bq _ _ 0 _ _ _ V7.J),(D.J.setCell (ae _) _).setCell (ae _) _⟩⟩
     case rest=>
      obtain⟨b9,rfl,H9⟩:=hcut;clear k0 k1 q0 q1 q2 V3 xW a4 KB;obtain⟨RN,SV⟩:=H9.J;obtain⟨o0,o1⟩:=bQ RN;have Vt:=ak (tw r.1 r.2 wc);have bo:=aA RN;clear RN SV;(try go_wp2_with fail);refine Vt.J.mono ?_;rintro c w3 ⟨rfl,gO⟩;obtain⟨RN,SV⟩:=H9.J;have BS:=(gO.block _ bo).trans RN;obtain⟨g0,g1⟩:=bQ BS;have G:=RM.J.trans ((SV.trans (gO.mono SV.size)).mono RM.J.size);obtain⟨-,L,-,y,-⟩:=M.J w3 G;obtain⟨f0,f1⟩:=bQ y;have z0:=jd y 0;have z1:=jd y 1;have ad:=aA y;have al:=ak y;have KC:=ak L;have r7:=ak G;clear RN SV gO BS G L y o0 o1;cases hag:gH m a.cy with
      |none=>
        have t:=HF.J;rw[hag]at t ac;have hd:decide (r.1≠0)=false:=by rw[t];rfl
        rw[hd];clear hd t hag;go_wp2_with fail
        first
        |exact⟨⟨o+1,by omega,by go_num,ac,r7⟩,by simp[intOf];omega⟩
        | (go_roundw
           case rel=>exact⟨o+1,by omega,by go_num,ac,r7⟩
           case measure=>simp[intOf];omega)
      |some k=>have t:=HF.J;rw[hag]at t ac;have hd:decide (r.1≠0)=true:=(by rw[t];rfl);have BA:Hid (AK (dD p s) f ry=(r,dD p s)):=ak (by rw[O.J,ac.J,t];rfl);rw[hd];clear hd t hag;go_wp2_with fail;obtain⟨⟨T,U⟩,d2⟩:=ie KC.J (dt _) al.J (ι κ r.1) (ι κ r.2);refine aE (v:=χ #[ι κ r.1,ι κ r.2]) (by simp[results,results271,go_sem,T,U];try rfl) rfl ?_;rw[BA.J];exact N.J.same d2 r rfl
    obtain rfl:o=Λ d:=(by omega);have BO:ry.findSome? (λc=>gH c a.cy)=ν:=(by rw[aC.J,E.J,lZ];rfl)
    rw[BO]at O;have Jv:Hid (∀c∈ry,gH c a.cy=ν):=ak (λc x=>by
     have:=List.findSome?_eq_none_iff.mp BO c x;simpa using this)
    obtain⟨c0,c1,c2⟩:=bN C;obtain⟨q0,q1,q2⟩:=bN F;obtain⟨f0,f1⟩:=bQ g;have z0:=jd g 0;have z1:=jd g 1;have a4:=aA F;have b7:=aA C;have b2:=aA g;have b3:=aA ag.jy;obtain⟨e0,e1,V,e3,e4,e5,e6,e7⟩:=eS ag.jy;have Vt:=ak g;have bi:=ak oX;rw[<- E.J]at O;clear ag oX C g La ax F Fg BO;by_cases aT:64<z+Λ d;{have bx:((z:Nat):Int)+(Λ d:Nat)>64:=(by omega);rw[aN aT]at O;go_wp2_with fail;go_quiet(fail);go_wp2_with fail;obtain⟨⟨T,U⟩,d2⟩:=ie (w1:=wr.drewN nq) (below_drewN bi.J _) (dt _) Vt.J (ι κ 8) (ι κ 0);refine aE (v:=χ #[ι κ 8,ι κ 0]) (by simp[results,results271,go_sem,T,U];try rfl) rfl ?_;rw[O.J];exact N.J.same d2 (8,0) rfl}
    have bx:¬((z:Nat):Int)+(Λ d:Nat)>64:=(by omega);rw[aH aT]at O;go_wp2_with fail;go_quiet(fail);obtain⟨n,ar⟩:∃n,n=wr.drewN nq:=⟨_,rfl⟩;have G:δ W.heap.size W n:=(by rw[ar];exact below_drewN ui.J _)
    rw[<- ar];obtain⟨JF,L,av,y,a5,a6⟩:=M.J n G;obtain⟨Le,bl⟩:=HT.J n G;clear c0 c1 c2 q0 q1 q2 f0 f1 z0 z1 e0 e1 V e3 e4 e5 e6 e7 ar;obtain⟨c0,c1,c2⟩:=bN av;obtain⟨q0,q1,q2⟩:=bN Le;obtain⟨e0,e1,V,e3,e4,e5,e6,e7⟩:=eS JF.jy;have b5:=aA Le;have b4:=aA av;have b6:=aA JF.jy;have ad:=aA y;have r7:=ak G;have QA:Hid (∀c∈ry,Λ c.ew=Λ a.cy):=ak (λc x=>(Gj (OH c x) (Jv.J c x)).1);have a7:Hid (nB a.cy (ry.map JO)):=ak (λc x=>by
     obtain⟨m,u,rfl⟩:=cP.mp x;exact(Gj (OH m u) (Jv.J m u)).2)
    have bc:=ak (λY (l:δ n.heap.size n Y)=>Lq (w:=Y) (t:=f) (n:=Λ a.cy) (aS.aU a5 l (ae _)) (a6.mono (λ_ _ _ u=>⟨u.1,aS.aU u.2 l (ae _)⟩)) QA.J aa.J.2.2.2 h5 EJ);have bb:=ak (λb bv vs base (l:δ n.heap.size n b) (cc:n.heap.size<=base) (ho:rJ b base bv vs (dq (Λ a.cy) (ry.map JO)))=>(show Calls prog 265 #[π (σ ⟨a.q,0,ν⟩),bv,ι κ (Λ d:Nat),χ #[ι κ i.seg,ι κ i.pk,ι κ i.wd,.bool i.prune,.bool i.push,ι κ i.bz]] b (λc w'=>c=.returned (.tuple #[])/\∃GH Z A,sx (λk=>P k\/k=e.heap.size+1) b w' a.q 0 a.cy a.cv a.sv GH Z A (z+Λ d:Nat)/\oi i.seg A/\A.flatten=a.Cs.flatten++ry.map JO)from by
     have qd:=L.trans (l.mono L.size);have j6:e.heap.size+1<b.heap.size:=aw ad l.size;have ap:=N.J.wide qd (dt _) j6;have bH:=ap.tab _ ab.J;have DV:∀k,mA a.q a.sv k->P k\/k=e.heap.size+1:=λk zC=>ap.sub k (.inr (.inr ⟨_,ab.J,zC⟩));have w:=bH.adds ap.pZ DV;rw[<- HN.J]at w;have am:(ry.map JO).length=Λ d:=by rw[bk,E.J]
     have a2:=agB (w:=b) (mv:=bv) (new:=ry.map JO) i HN.J w aa.J.2.1 (ho.away (λk zC=>by
      have I:k<n.heap.size:=mA.inside ((M.J n r7.J).1.tab _ ab.J) zC;omega)) aa.J.1 a7.J (by rw[am];omega) (by rw[am,E.J];exact j9.mpr bz) aa.J.2.2.1 aa.J.2.2.2 h5 (aB _)
     rw[am]at a2;exact a2))
    have bd:=ak (λb (l:δ n.heap.size n b)=>(show b.cell? ⟨e.heap.size,2,ν⟩=σ (ψ K (Λ d) H)/\(b.cell? ⟨v,0,ν⟩=σ (ι κ i.seg)/\b.cell? ⟨v,1,ν⟩=σ (ι κ i.pk)/\b.cell? ⟨v,2,ν⟩=σ (ι κ i.wd)/\b.cell? ⟨v,3,ν⟩=σ (.bool i.prune)/\b.cell? ⟨v,4,ν⟩=σ (.bool i.push)/\b.cell? ⟨v,5,ν⟩=σ (ι κ i.bz))/\e.heap.size<b.heap.size/\v<b.heap.size from by
     obtain⟨k1,-,k3,-⟩:=M.J b (r7.J.trans (l.mono r7.J.size));obtain⟨j0,j1,j2,j3,j4,j5,-,-⟩:=eS k1.jy;exact⟨(bN k3).2.2,⟨j0,j1,j2,j3,j4,j5⟩,aA k3,aA k1.jy⟩))
    have KC:=ak L;have al:=ak y;clear JF L av y a5 a6 Le bl G;(try go_wp2_with fail);go_cut[] (λY=>Hid (∃b GH Z A,δ n.heap.size n b/\sx (λk=>P k\/k=e.heap.size+1) b Y a.q 0 a.cy a.cv a.sv GH Z A (z+Λ d:Nat)/\oi i.seg A/\A.flatten=a.Cs.flatten++ry.map JO));case first=>
     go_region_law(first
      | (refine lL rfl 272 _ _ rfl call272 #[χ #[θ f.1,ι κ f.2,ψ K (Λ d) H],ι κ (Λ a.cy)] (by first|(simp[Act.eval];done)|(simp[Act.eval,Act.put];done)|rfl) _ (bc.J _ (aP (aj _ _))) ?_;rintro a8 b ⟨bv,vs,rfl,hO,g⟩;refine⟨_,rfl,?_⟩;obtain⟨ba,vj,rfl,-,-⟩:=cR hO.row;have D:Hid (δ n.heap.size n b):=ak ((aP (aj _ _)).trans g);obtain⟨l0,⟨l1,l2,l3,l4,l5,l6⟩,l7,l8⟩:=bd.J b D.J;have HO:=ak hO;clear hO g)
      | (refine lL rfl 265 _ _ rfl call265 #[π (σ ⟨a.q,0,ν⟩),.slice ba _ vj,ι κ (Λ d),χ #[ι κ i.seg,ι κ i.pk,ι κ i.wd,.bool i.prune,.bool i.push,ι κ i.bz]] (by first|(simp[Act.eval];done)|(simp[Act.eval,Act.put];done)|rfl) _ (bb.J _ _ _ _ D.J (by simp) HO.J) ?_;rintro a8 w4 ⟨rfl,w⟩;refine⟨_,rfl,?_⟩;have HA:=ak w;clear w))
     (all_goals(try go_wp2_with fail));(all_goals go_meet);all_goals obtain⟨GH,Z,A,w,hB,hC⟩:=HA.J;exact ak ⟨b,GH,Z,A,D.J,w,hB,hC⟩
    case rest=>
     obtain⟨b,GH,Z,A,g,w,KR,F5⟩:=hcut.J;have qd:=KC.J.trans (g.mono KC.J.size);have j6:e.heap.size+1<b.heap.size:=aw ad g.size;have QO:wc.heap[e.heap.size+1]?=σ (ξ #[ι κ 0,ι κ 0] 77 (0,0)):=(by refine(w.keep.block _ ⟨j6,λhm=>?_⟩).trans ((g.block _ ad).trans al.J);have:=N.J.pZ _ (N.J.sub _ (.inr (.inr ⟨_,ab.J,hm⟩)));omega)
     have yr:Hid (∀W9,W9=(wc.setCell ⟨e.heap.size+1,0,ν⟩ (ι κ 0)).setCell ⟨e.heap.size+1,1,ν⟩ (ι κ 0)->mB i e W9 v mt mg P p (AK (dD p s) f ry) (.returned (χ #[ι κ 0,ι κ 0]))):=ak (λW9 h9=>by
      rw[O.J];refine ady N.J qd (dt _) j6 ab.J w ?_ KR F5 a7.J ?_ h9 rfl
      . rw[F5,au,bk,<- HN.J,E.J]
      . rw[F5,au,bk,<- HN.J,<- E.J];omega)
     obtain⟨f0,f1⟩:=bQ QO;have z0:=jd QO 0;have z1:=jd QO 1;have b8:=aA QO;have bg:=ak QO;clear g w KR F5 qd j6 QO hcut;go_wp2_with fail;obtain⟨T,U⟩:=bQ (bq _ _ 1 _ _ (ι κ 0) (bq _ _ 0 _ _ (ι κ 0) bg.J));refine aE (v:=χ #[ι κ 0,ι κ 0]) (by simp[results,results271,go_sem,T,U];try rfl) rfl ?_;exact yr.J _ rfl
end
