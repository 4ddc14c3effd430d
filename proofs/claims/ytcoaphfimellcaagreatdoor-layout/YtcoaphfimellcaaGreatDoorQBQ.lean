import Derived.Test.YtcoaphfimellcaaGreatDoorQBN
import Derived.Test.YtcoaphfimellcaaGreatDoorQBP
set_option maxHeartbeats 0
set_option maxRecDepth 100000
namespace Go.Proofs.YtcoaphfimellcaaGreatDoor
open Go.RowKit
open _root_.Go.Proofs.Tryz
open Option renaming some→σ,none→ν
open Go.IntKind renaming i64→κ
open Go.Ending renaming returned→τ
open Go.Obj renaming cells→ξ
open Go renaming World→ω,Value→υ
open Go.RowKit renaming Below→δ
open Go.Value renaming int→ι,string→θ,pointer→π,agg→χ
variable{w:ω}{p:Nat}
section
open Go.Maps
theorem afW{q:Nat}{a:Nm}(d:w.heap[q]?=σ (ξ #[θ a.1,ι κ a.2] 133 (0,0)))(b:ByteArray×ByteArray)(c:GrV) :
 Calls prog 275 #[mkK b,XW c,π (σ ⟨q,0,ν⟩)] w λe g=>e=τ (.bool (iZ b.2 a.1))/\w.grownBy g ν:=by obtain⟨s,t⟩:=b;obtain⟨⟨j,m,k⟩,l,n⟩:=c;obtain⟨p,r⟩:=bq d;have i:=aw d;unfold mkK XW;go_in;go_wp2_with fail;go_ret;exact⟨by rw[mV];rfl,(cR w _ ν).andThen (cR _ _ ν) (λo f=>by cases f)⟩
theorem ab5{aa:sE}{mt j:Nat}{W:Nat->Prop}{o:List (Lit×gD)}{n:List (Lit×ot)}(N:cQ aa w p mt j W o n){b:Nm}(ht:nw b) :
 Calls prog 273 #[χ #[θ b.1,ι κ b.2],π (σ ⟨p,0,ν⟩)] w λa3 w'=>lg aa w w' p mt j W o (Fc (cO o n) b) a3:=by
 have B:b.1.size<=maxLen:=by have:=ht.1;unfold maxLen;omega
 obtain⟨C,y⟩:=nm ((w.alloc (Zn b.1 b.2)).alloc (gY 0 0));have R:=vC y;have yZ:C.heap.size=w.heap.size+2:=by rw[y];simp
 have l:C.heap[w.heap.size]?=σ (Zn b.1 b.2)/\C.heap[w.heap.size+1]?=σ (gY 0 0):=by
  rw[y];have M:=au (w.alloc (Zn b.1 b.2)) (gY 0 0);rw[show(w.alloc (Zn b.1 b.2)).heap.size=w.heap.size+1 by simp]at M;exact⟨(dZ _ _ (by simp)).trans (au w _),M⟩
 have u:=N.below R;obtain⟨c0,c1⟩:=bq l.1;obtain⟨f0,f1⟩:=bq l.2;have z0:=eR l.2 0;have z1:=eR l.2 1;obtain⟨e0,e1,M,e3,e4,e5,e6,e7⟩:=eE u.eW;have a6:=aw u.eW;have EO:=aw l.1;have yo:=aw l.2;have H:=u.find B;have T:=(u.below (aH (ah _ _))).find B;have HH:=ak N;have HF:=ak l.2;have HQ:=ak l.1;have qg:=ak R;have HW:=ak y;have HS:=ak u
 cases hg:eU o (tk b.1)with
 |none=>
   simp only[hg]at H T;have zg:Hid (Fc (cO o n) b=((5,b.2),cO o n)):=ak (by unfold Fc cO;simp only;rw[gU,hg];rfl);clear N y R l u hg yZ;go_in;go_wp2_with fail;rw[<- HW.J];go_region
   all_goals
    (try go_wp2_with fail)
    obtain⟨⟨d0,d1⟩,d2⟩:=gE (w1:=C) qg.J (bE _) HF.J (ι κ 5) (ι κ b.2);refine aB (by simp[results,results273,go_sem,d0,d1];rfl) rfl ?_;rw[zg.J];exact HH.J.same (aH d2) (5,b.2) rfl
 |some tc=>
   simp only[hg]at H T;unfold gD.val at H T;clear N y R l u yZ;go_in;go_wp2_with fail;rw[<- HW.J];go_region
   all_goals
    (try go_wp2_with fail)
    obtain⟨r,z⟩:=nm C.drew;rw[<- z];have e:cQ aa r p mt j W o n:=by rw[z];exact HS.J.below (aH (ah _ _))
    have an:r.heap[w.heap.size+1]?=σ (gY 0 0):=by rw[z];exact HF.J
    have O:r.heap[w.heap.size]?=σ (Zn b.1 b.2):=by rw[z];exact HQ.J
    have m:δ w.heap.size w r:=by rw[z];exact aH qg.J
    have V:=e.below (aH (ah _ _));obtain⟨U,Tp,hM,g⟩:=V.Be.del Tryz.MO underlying70 (Tg B) 0;have P:∀(c:Nat) (Z:Array υ) (ty:TypeId) (fr:Nat×Nat),r.heap[c]?=σ (Obj.cells Z ty fr)->U.heap[c]?=σ (Obj.cells Z ty fr):=λc Z ty fr d=>(g.block c (aw d) (λa=>by cases a;exact V.Be.nD d)).trans d;obtain⟨p0,p1,p2,p3,p4,p5,p6,p7⟩:=eE (P p _ _ _ e.eW);obtain⟨m0,m1,m2,m3,m4,m5,m6,m7⟩:=eE e.eW;obtain⟨r0,r1⟩:=bq O;have a5:=aw (P p _ _ _ e.eW);have a4:=aw e.eW;have Z5:=aw O;have I:=ak e;have G:=ak an;have av:=ak O;have Zg:=ak m;have HM:=ak hM;have RL:=ak g;have ad:=ak P;clear z e an O m V hM g P c0 c1 f0 f1 z0 z1 e0 e1 M e3 e4 e5 e6 e7 H T;go_region
    all_goals
     (try go_wp2_with fail)
     have e:=I.J;have g:=RL.J;have am:U.heap[j]?=r.heap[j]?:=g.block j e.Bf.lt (λa=>e.ne (bf a).symm);have t:=e.Bf.kept (w':=U) am;have al:∀i∈fS ot.val n,∃Y,i.2=XW Y:=λi E=>by
      obtain⟨ab,hy,rfl⟩:=cE.mp E;obtain⟨_,_,_,_,_,_,_,yh⟩:=e.gr ab hy;obtain⟨sa,lL,Dy⟩:=bu.slice yh.shr;have Ou:=yh.work;obtain⟨k2,jN,XM,-⟩:=Ou;exact⟨((sa,ab.2.sh.length,lL),(k2,jN)),by show ot.val ab.2=_;unfold ot.val XW;rw[Dy,XM]⟩
     obtain⟨a8,bS⟩:=t.toG al;have L:=ad.J _ _ _ _ av.J;have zq:=ad.J _ _ _ _ G.J;have fE:j≠w.heap.size:=λa=>t.nD (by rw[a];exact L);have ao:=ak (IK (g:=275) (cb:=#[π (σ ⟨w.heap.size,0,ν⟩)]) bS (λkl _=>@decide (∃f:ByteArray,f.size<=maxLen/\kl=gk f b.1) (Classical.propDecidable _)) call275 (λW' i Y Gx DU EJ=>by
      have B3:=(Gx.block _ (aw L) (λa=>fE (bf a).symm)).trans L;refine(afW B3 i Y).mono ?_;rintro a w' ⟨rfl,s⟩;refine⟨bn (λc=>Ending.returned (Value.bool c)) ?_,s⟩
      cases d:iZ i.2 b.1 with
      |true=>exact(@bK _ (Classical.propDecidable _) ⟨i.1,DU,by rw[jE.mp d]⟩).symm
      |false=>
        refine(@aP _ (Classical.propDecidable _) ?_).symm;rintro⟨f,v,he⟩;have:=(MP DU EJ v B he).2;rw[this]at d;rw[jE.mpr rfl]at d
        cases d))
     have HN:=ak fE;have ac:=ak zq;clear e g am t al bS L zq fE;refine ao.J.mono ?_;rintro a F ⟨rfl,X,k⟩;have ar:Hid (∃A,A.Sublist n/\(∀i∈A,∀f:ByteArray,f.size<=8->i.1≠gk f b.1)/\lz F 198 j (fS ot.val A)/\Fc (cO o n) b=((0,0),⟨pW (fS gD.told o) (tk b.1),fS ot.told A⟩)):=ak (by
      rw[Tf]at X;have K:(8:Nat)<=maxLen:=by unfold maxLen;omega
      have g:=I.J.gr;refine⟨n.filter λi=>!@decide (∃f:ByteArray,f.size<=maxLen/\i.1=gk f b.1) (Classical.propDecidable _),List.filter_sublist,λi E f v a=>?_,?_,?_⟩
      . have s:=(eA.mp E).2
        rw[@bK _ (Classical.propDecidable _) ⟨f,ag v K,a⟩]at s
        cases s
      . have x:=lz.ofG X
        unfold fS at x ⊢;rw[nA]at x;exact x
      . unfold Fc cO
        simp only;rw[gU,hg];simp only[Option.map_some,Option.isSome_some,if_true];congr 2;unfold fS;rw[nA];congr 1;apply uS;intro i E;obtain⟨u',t',s,x,h3,-⟩:=g i E;simp only[Function.comp];congr 1;by_cases Q:∃f:ByteArray,f.size<=maxLen/\i.1=gk f b.1
        . rw[@bK _ (Classical.propDecidable _) Q]
          obtain⟨f,v,a⟩:=Q;rw[s]at a;obtain⟨rfl,rfl⟩:=MP (ag x K) (ag h3 K) v B a;exact @bK _ (Classical.propDecidable _) ⟨_,x,s⟩
        . rw[@aP _ (Classical.propDecidable _) Q]
          exact @aP _ (Classical.propDecidable _) (λ⟨f,v,a⟩=>Q ⟨f,ag v K,a⟩))
     have D:=(k.block (w.heap.size+1) (aw ac.J) (λa=>by cases a;exact(I.J.Bf.nD G.J))).trans ac.J;obtain⟨g0,g1⟩:=bq D;have y0:=eR D 0;have y1:=eR D 1;have ap:=ak D;have aq:=ak k;clear X D k;go_wp2_with fail;obtain⟨d0,d1⟩:=bq (aN _ _ 1 _ _ (ι κ 0) (aN _ _ 0 _ _ (ι κ 0) ap.J));refine aB (by simp[results,results273,go_sem,d0,d1];rfl) rfl ?_;obtain⟨A,CF,VC,Z0,ax⟩:=ar.J;rw[ax];have e:=I.J;have m:=Zg.J;have g:=RL.J;have k:=aq.J;have aC:mt≠w.heap.size+1:=λa=>e.Be.nD (by rw[a];exact G.J);have a0:j≠w.heap.size+1:=λa=>e.Bf.nD (by rw[a];exact G.J);have t:=HM.J;rw[wm]at t;have a2:=t.kept (w':=F) (k.block mt t.lt (λa=>e.ne (bf a)));have Tt:∀c,c≠w.heap.size+1->((F.setCell ⟨w.heap.size+1,0,ν⟩ (ι κ 0)).setCell ⟨w.heap.size+1,1,ν⟩ (ι κ 0)).heap[c]?=F.heap[c]?:=λc d=>(ay _ _ _ _ d).trans (ay _ _ _ _ d);have a1:aX (λc=>c<w.heap.size/\c≠mt/\c≠j) w F:=aX.trans (b:=r.drew) ⟨m.os,m.tape,m.output,m.size,λc d=>m.block c d.1⟩ (aX.trans (b:=U) ⟨g.os,g.tape,g.output,g.size,λc d=>g.block c (ai d.1 m.size) (λa=>d.2.1 (bf a))⟩ ⟨k.os,k.tape,k.output,k.size,λc d=>k.block c (ai d.1 (ag m.size g.size)) (λa=>d.2.2 (bf a))⟩);exact HH.J.dropped CF VC (a2.kept (Tt mt aC)) (Z0.kept (Tt j a0)) ((a1.setCell (λhk=>by have:=hk.1;simp at this;omega) _).setCell (λhk=>by have:=hk.1;simp at this;omega) _) rfl
end
