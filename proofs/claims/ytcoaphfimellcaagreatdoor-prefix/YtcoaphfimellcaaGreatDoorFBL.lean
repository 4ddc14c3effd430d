import Derived.Test.YtcoaphfimellcaaGreatDoorFBI
import Derived.Test.YtcoaphfimellcaaGreatDoorFBK
set_option maxHeartbeats 0
set_option maxRecDepth 100000
namespace Go.Proofs.YtcoaphfimellcaaGreatDoor
open Go.RowKit
open _root_.Go.Proofs.Tryz
variable{w:World}{p:Nat}
section
open Go.Maps
theorem aiq{q:Nat}{a:Nm}(d:w.heap[q]?=some (.cells #[.string a.1,.int .i64 a.2] 133 (0,0)))(b:ByteArray×ByteArray)(c:GrV) :
 Calls prog 275 #[mkK b,mkG c,.pointer (some ⟨q,0,none⟩)] w λe g=>e=.returned (.bool (jN b.2 a.1))/\w.grownBy g none:=by obtain⟨s,t⟩:=b;obtain⟨⟨j,m,k⟩,l,o⟩:=c;obtain⟨p,r⟩:=br d;have i:=ay d;unfold mkK mkG;go_in;go_wp2_with fail;go_ret;exact⟨by rw[nE];rfl,(dh w _ none).andThen (dh _ _ none) (λn f=>by cases f)⟩
theorem aeu{aa:uS}{mt j:Nat}{W:Nat->Prop}{o:List (Lit×ij)}{n:List (Lit×oV)}(M:df aa w p mt j W o n){b:Nm}(ht:nT b) :
 Calls prog 273 #[.agg #[.string b.1,.int .i64 b.2],.pointer (some ⟨p,0,none⟩)] w λa8 w'=>lI aa w w' p mt j W o (JV (de o n) b) a8:=by
 have B:b.1.size<=maxLen:=by have:=ht.1;unfold maxLen;omega
 have⟨C,y⟩:=nm ((w.alloc (abQ b.1 b.2)).alloc (iQ 0 0));have R:=xI y;have Ae:C.heap.size=w.heap.size+2:=by rw[y];simp
 have m:C.heap[w.heap.size]?=some (abQ b.1 b.2)/\C.heap[w.heap.size+1]?=some (iQ 0 0):=(by rw[y];have L:=ak (w.alloc (abQ b.1 b.2)) (iQ 0 0);rw[show(w.alloc (abQ b.1 b.2)).heap.size=w.heap.size+1 by simp]at L;exact⟨(fu _ _ (by simp)).trans (ak w _),L⟩);have u:=M.below R;have⟨c0,c1⟩:=br m.1;have⟨f0,f1⟩:=br m.2;have z0:=fP m.2 0;have z1:=fP m.2 1;have⟨e0,e1,L,e3,e4,e5,e6,e7⟩:=fq u.fQ;have bc:=ay u.fQ;have IK:=ay m.1;have Aa:=ay m.2;have H:=u.find B;have T:=(u.below (aH (ah _ _))).find B;have HH:=au M;have HF:=au m.2;have HQ:=au m.1;have po:=au R;have HW:=au y;have HS:=au u;cases hg:fU o (tk b.1)with
 |none=>simp only[hg]at H T;have Ak:Hid (JV (de o n) b=((5,b.2),de o n)):=au (by unfold JV de;simp only;rw[iM,hg];rfl);clear M y R m u hg Ae;go_in;go_wp2_with fail;rw[<- HW.J];go_region;all_goals (try go_wp2_with fail);have⟨⟨d0,d1⟩,d2⟩:=ik (w1:=C) po.J (bF _) HF.J (.int .i64 5) (.int .i64 b.2);refine aD (by simp[results,results273,go_sem,d0,d1];rfl) rfl ?_;rw[Ak.J];exact HH.J.same (aH d2) (5,b.2) rfl
 |some tc=>
  simp only[hg]at H T;unfold ij.val at H T;clear M y R m u Ae;go_in;go_wp2_with fail;rw[<- HW.J];go_region;all_goals
   (try go_wp2_with fail);have⟨r,z⟩:=nm C.drew;rw[<- z];have e:df aa r p mt j W o n:=(by rw[z];exact HS.J.below (aH (ah _ _)));have an:r.heap[w.heap.size+1]?=some (iQ 0 0):=(by rw[z];exact HF.J);have N:r.heap[w.heap.size]?=some (abQ b.1 b.2):=(by rw[z];exact HQ.J);have k:Below w.heap.size w r:=(by rw[z];exact aH po.J);have V:=e.below (aH (ah _ _));have⟨U,VB,hM,g⟩:=V.Ch.del Tryz.OU underlying70 (Vw B) 0;have O:∀(c:Nat) (Z:Array Value) (ty:TypeId) (fr:Nat×Nat),r.heap[c]?=some (Obj.cells Z ty fr)->U.heap[c]?=some (Obj.cells Z ty fr):=λc Z ty fr d=>(g.block c (ay d) (λa=>by cases a;exact V.Ch.nY d)).trans d;have⟨p0,p1,p2,p3,p4,p5,p6,p7⟩:=fq (O p _ _ _ e.fQ);have⟨m0,m1,m2,m3,m4,m5,m6,m7⟩:=fq e.fQ;have⟨r0,r1⟩:=br N;have bb:=ay (O p _ _ _ e.fQ);have ba:=ay e.fQ;have a9:=ay N;have I:=au e;have G:=au an;have ax:=au N;have av:=au k;have HM:=au hM;have Uy:=au g;have ad:=au O;clear z e an N k V hM g O c0 c1 f0 f1 z0 z1 e0 e1 L e3 e4 e5 e6 e7 H T;go_region;all_goals
    (try go_wp2_with fail);have e:=I.J;have g:=Uy.J;have am:U.heap[j]?=r.heap[j]?:=g.block j e.Ci.lt (λa=>e.ne (bk a).symm);have t:=e.Ci.kept (w':=U) am;have al:∀i∈gQ oV.val n,∃Y,i.2=mkG Y:=λi E=>by
     obtain⟨ab,hy,rfl⟩:=cI.mp E;have⟨_,_,_,_,_,_,_,zy⟩:=e.gr ab hy;have⟨sa,mo,DF⟩:=bz.slice zy.shr;have QL:=zy.work;obtain⟨k2,kH,a5,-⟩:=QL;exact⟨((sa,ab.2.sh.length,mo),(k2,kH)),by show oV.val ab.2=_;unfold oV.val mkG;rw[DF,a5]⟩
    have⟨bd,cj⟩:=t.toG al;have Q:=ad.J _ _ _ _ ax.J;have Aw:=ad.J _ _ _ _ G.J;have fy:j≠w.heap.size:=λa=>t.nY (by rw[a];exact Q);have ao:=au (J3 (g:=275) (cb:=#[.pointer (some ⟨w.heap.size,0,none⟩)]) cj (λkl _=>@decide (∃f:ByteArray,f.size<=maxLen/\kl=gk f b.1) (Classical.propDecidable _)) call275 (λW' i Y Hk Mf NC=>by
     have Df:=(Hk.block _ (ay Q) (λa=>fy (bk a).symm)).trans Q;refine(aiq Df i Y).mono ?_;rintro a w' ⟨rfl,s⟩;refine⟨a7 (λc=>Ending.returned (Value.bool c)) ?_,s⟩
     cases d:jN i.2 b.1 with
     |true=>exact(@bU _ (Classical.propDecidable _) ⟨i.1,Mf,by rw[kA.mp d]⟩).symm
     |false=>
       refine(@aN _ (Classical.propDecidable _) ?_).symm;rintro⟨f,v,he⟩;have:=(OV Mf NC v B he).2;rw[this]at d;rw[kA.mpr rfl]at d
       cases d))
    have HN:=au fy;have ac:=au Aw;clear e g am t al cj Q Aw fy;refine ao.J.mono ?_;rintro a F ⟨rfl,X,l⟩;have ar:Hid (∃A,A.Sublist n/\(∀i∈A,∀f:ByteArray,f.size<=8->i.1≠gk f b.1)/\lS F 198 j (gQ oV.val A)/\JV (de o n) b=((0,0),⟨qA (gQ ij.told o) (tk b.1),gQ oV.told A⟩)):=au (by
     rw[Vv]at X;have K:(8:Nat)<=maxLen:=by unfold maxLen;omega
     have g:=I.J.gr;refine⟨n.filter λi=>!@decide (∃f:ByteArray,f.size<=maxLen/\i.1=gk f b.1) (Classical.propDecidable _),List.filter_sublist,λi E f v a=>?_,?_,?_⟩
     . have s:=(eW.mp E).2
       rw[@bU _ (Classical.propDecidable _) ⟨f,ag v K,a⟩]at s
       cases s
     . have x:=lS.ofG X
       unfold gQ at x ⊢;rw[nW]at x;exact x
     . unfold JV de
       simp only;rw[iM,hg];simp only[Option.map_some,Option.isSome_some,if_true];congr 2;unfold gQ;rw[nW];congr 1;apply rr;intro i E;obtain⟨u',t',s,x,h3,-⟩:=g i E;simp only[Function.comp];congr 1;by_cases P:∃f:ByteArray,f.size<=maxLen/\i.1=gk f b.1
       . rw[@bU _ (Classical.propDecidable _) P]
         obtain⟨f,v,a⟩:=P;rw[s]at a;obtain⟨rfl,rfl⟩:=OV (ag x K) (ag h3 K) v B a;exact @bU _ (Classical.propDecidable _) ⟨_,x,s⟩
       . rw[@aN _ (Classical.propDecidable _) P]
         exact @aN _ (Classical.propDecidable _) (λ⟨f,v,a⟩=>P ⟨f,ag v K,a⟩))
    have D:=(l.block (w.heap.size+1) (ay ac.J) (λa=>by cases a;exact(I.J.Ci.nY G.J))).trans ac.J;have⟨g0,g1⟩:=br D;have y0:=fP D 0;have y1:=fP D 1;have ap:=au D;have aq:=au l;clear X D l;go_wp2_with fail;have⟨d0,d1⟩:=br (aQ _ _ 1 _ _ (.int .i64 0) (aQ _ _ 0 _ _ (.int .i64 0) ap.J));refine aD (by simp[results,results273,go_sem,d0,d1];rfl) rfl ?_;have⟨A,DM,Yu,a2,aC⟩:=ar.J;rw[aC];have e:=I.J;have k:=av.J;have g:=Uy.J;have l:=aq.J;have a0:mt≠w.heap.size+1:=λa=>e.Ch.nY (by rw[a];exact G.J);have a1:j≠w.heap.size+1:=λa=>e.Ci.nY (by rw[a];exact G.J);have t:=HM.J;rw[xj]at t;have a4:=t.kept (w':=F) (l.block mt t.lt (λa=>e.ne (bk a)));have VF:∀c,c≠w.heap.size+1->((F.setCell ⟨w.heap.size+1,0,none⟩ (.int .i64 0)).setCell ⟨w.heap.size+1,1,none⟩ (.int .i64 0)).heap[c]?=F.heap[c]?:=λc d=>(az _ _ _ _ d).trans (az _ _ _ _ d);have a3:aY (λc=>c<w.heap.size/\c≠mt/\c≠j) w F:=aY.trans (b:=r.drew) ⟨k.os,k.tape,k.output,k.size,λc d=>k.block c d.1⟩ (aY.trans (b:=U) ⟨g.os,g.tape,g.output,g.size,λc d=>g.block c (ai d.1 k.size) (λa=>d.2.1 (bk a))⟩ ⟨l.os,l.tape,l.output,l.size,λc d=>l.block c (ai d.1 (ag k.size g.size)) (λa=>d.2.2 (bk a))⟩);exact HH.J.dropped DM Yu (a4.kept (VF mt a0)) (a2.kept (VF j a1)) ((a3.setCell (λhk=>by have:=hk.1;simp at this;omega) _).setCell (λhk=>by have:=hk.1;simp at this;omega) _) rfl
end
