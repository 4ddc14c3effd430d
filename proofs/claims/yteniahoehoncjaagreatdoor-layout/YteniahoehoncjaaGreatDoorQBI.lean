import Derived.Test.YteniahoehoncjaaGreatDoorQAX
import Derived.Test.YteniahoehoncjaaGreatDoorQBG
set_option maxHeartbeats 99999999
set_option maxRecDepth 100000
namespace Go.Proofs.YteniahoehoncjaaGreatDoor
open Go.RowKit
section
open Go.Maps
theorem aaM {w:World}{q:Nat}{t:Nm}(hq:w.heap[q]?=some (.cells #[.string t.1,.int .i64 t.2] 129 (0,0)))(x:ByteArray×ByteArray)(c:GrV) :
 Calls Tryz.prog 217 #[mkK x,TR c,.pointer (some ⟨q,0,none⟩)] w λe w'=>e=.returned (.bool (kh x.2 t.1))/\w.grownBy w' none:=by
 obtain ⟨x1,x2⟩:=x;obtain ⟨⟨ca,cn,cc⟩,ck,kV⟩:=c;obtain ⟨q0,q1⟩:=bj hq;have BA:=az hq;unfold mkK TR;go_enter Tryz.func217,Tryz.ntmps217;go_wp2_with fail;go_ret;exact ⟨by rw [lC];rfl,(bP w _ none).andThen (bP _ _ none) (λj hj=>by cases hj)⟩
theorem Xp {o:rO}{w:World}{p mt mg:Nat}{X:Nat->Prop}{tl:List (Lit×fF)}{gl:List (Lit×ng)}(h:cx o w p mt mg X tl gl){t:Nm}(ht:mN t) :
 Calls Tryz.prog 215 #[.agg #[.string t.1,.int .i64 t.2],.pointer (some ⟨p,0,none⟩)] w λr w'=>jR o w w' p mt mg X tl (CM (cw tl gl) t) r:=by
 have DY:t.1.size<=maxLen:=by have:=ht.1;unfold maxLen;omega
 obtain ⟨W,hW⟩:∃W,W=(w.alloc (.cells #[.string t.1,.int .i64 t.2] 129)).alloc (.cells #[.int .i64 0,.int .i64 0] 72):=⟨_,rfl⟩;have lK:Below w.heap.size w W:=by rw [hW];exact ((ag _ _).alloc (af _) _).alloc (by simp) _
 have za:W.heap.size=w.heap.size+2:=by rw [hW];simp
 have fN:W.heap[w.heap.size]?=some (.cells #[.string t.1,.int .i64 t.2] 129 (0,0))/\W.heap[w.heap.size+1]?=some (.cells #[.int .i64 0,.int .i64 0] 72 (0,0)):=by
  rw [hW];have e2:=ai (w.alloc (.cells #[.string t.1,.int .i64 t.2] 129)) (.cells #[.int .i64 0,.int .i64 0] 72);rw [show (w.alloc (.cells #[.string t.1,.int .i64 t.2] 129)).heap.size=w.heap.size+1 by simp] at e2;exact ⟨(dX _ _ (by simp)).trans (ai w _),e2⟩
 have hS:=h.below lK;obtain ⟨c0,c1⟩:=bj fN.1;obtain ⟨f0,f1⟩:=bj fN.2;have z0:=lz fN.2 0;have z1:=lz fN.2 1;obtain ⟨e0,e1,e2,e3,e4,e5,e6,e7⟩:=dG hS.dV;have hpW:=az hS.dV;have Db:=az fN.1;have Kc:=az fN.2;have xG:=hS.find DY;have o7:=(hS.below (aJ (ag _ _))).find DY;have HH:=hide h;have HF:=hide fN.2;have HQ:=hide fN.1;have oD:=hide lK;have HW:=hide hW;have HS:=hide hS
 cases hg:eA tl (tk t.1) with
 |none=>
   simp only [hg] at xG o7;have zA:Hid (CM (cw tl gl) t=((5,t.2),cw tl gl)):=hide (by unfold CM cw;simp only;rw [fY,hg];rfl);clear h hW lK fN hS hg za;go_enter Tryz.func215,Tryz.ntmps215;go_wp2_with fail;rw [<- ae HW];go_region
   all_goals
    (try go_wp2_with fail)
    obtain ⟨⟨d0,d1⟩,d2⟩:=eX (w1:=W) (ae oD) (cq _) (ae HF) (.int .i64 5) (.int .i64 t.2);refine ay (v:=.agg #[.int .i64 5,.int .i64 t.2]) (by simp [results,Tryz.results215,go_sem,d0,d1];try rfl) rfl ?_;rw [ae zA];exact (ae HH).same (aJ d2) (5,t.2) rfl
 |some tc=>
   simp only [hg] at xG o7;unfold fF.val at xG o7;clear h hW lK fN hS za;go_enter Tryz.func215,Tryz.ntmps215;go_wp2_with fail;rw [<- ae HW];go_region
   all_goals
    (try go_wp2_with fail)
    obtain ⟨W2,La⟩:∃W2,W2=W.drew:=⟨_,rfl⟩;rw [<- La];have AA:cx o W2 p mt mg X tl gl:=by rw [La];exact (ae HS).below (aJ (ag _ _))
    have hF2:W2.heap[w.heap.size+1]?=some (.cells #[.int .i64 0,.int .i64 0] 72 (0,0)):=by rw [La];exact ae HF
    have hQ2:W2.heap[w.heap.size]?=some (.cells #[.string t.1,.int .i64 t.2] 129 (0,0)):=by rw [La];exact ae HQ
    have Ah:Below w.heap.size w W2:=by rw [La];exact aJ (ae oD)
    have xI:=AA.below (aJ (ag _ _));obtain ⟨w5,PH,hM,iu⟩:=xI.yz.del Tryz.Kh Tryz.underlying66 (O4 DY) 0;have Xq:∀(b:Nat) (cs:Array Value) (ty:TypeId) (fr:Nat×Nat),W2.heap[b]?=some (Obj.cells cs ty fr)->w5.heap[b]?=some (Obj.cells cs ty fr):=λb cs ty fr hb=>(iu.block b (az hb) (λe=>by cases e;exact xI.yz.lV hb)).trans hb;obtain ⟨p0,p1,p2,p3,p4,p5,p6,p7⟩:=dG (Xq p _ _ _ AA.dV);obtain ⟨m0,m1,m2,m3,m4,m5,m6,m7⟩:=dG AA.dV;obtain ⟨r0,r1⟩:=bj hQ2;have an8:=az (Xq p _ _ _ AA.dV);have Vq:=az AA.dV;have V6:=az hQ2;have Gu:=hide AA;have CA:=hide hF2;have VR:=hide hQ2;have r6:=hide Ah;have HM:=hide hM;have UG:=hide iu;have HM5:=hide Xq;clear La AA hF2 hQ2 Ah xI hM iu Xq c0 c1 f0 f1 z0 z1 e0 e1 e2 e3 e4 e5 e6 e7 xG o7;go_region
    all_goals
     (try go_wp2_with fail)
     have AA:=ae Gu;have iu:=ae UG;have aiE:w5.heap[mg]?=W2.heap[mg]?:=iu.block mg AA.yA.lt (λe=>AA.ne (aS e).symm);have hM5:=AA.yA.kept (w':=w5) aiE;have Xr:∀x∈eZ ng.val gl,∃c,x.2=TR c:=λx hx=>by
      obtain ⟨y,hy,rfl⟩:=dv.mp hx;obtain ⟨_,_,_,_,_,_,_,yT⟩:=AA.gr y hy;obtain ⟨sa,mb,Og⟩:=bF.slice yT.shr;have LH:=yT.work;obtain ⟨k2,iy,Ts,-⟩:=LH;exact ⟨((sa,y.2.sh.length,mb),(k2,iy)),by show ng.val y.2=_;unfold ng.val TR;rw [Og,Ts]⟩
     obtain ⟨n,br⟩:=hM5.toG Xr;have U5:=ae HM5 _ _ _ _ (ae VR);have Dv:=ae HM5 _ _ _ _ (ae CA);have iq:mg≠w.heap.size:=λe=>hM5.lV (by rw [e];exact U5);have HDF:=hide (F9 (g:=217) (cb:=#[.pointer (some ⟨w.heap.size,0,none⟩)]) br (λkl _=>@decide (∃u:ByteArray,u.size<=maxLen/\kl=gk u t.1) (Classical.propDecidable _)) Tryz.call217 (λW' x c Gp D0 CH=>by
      have Co:=(Gp.block _ (az U5) (λe=>iq (aS e).symm)).trans U5;refine (aaM Co x c).mono ?_;rintro e w' ⟨rfl,h1⟩;refine ⟨aU (λb=>Ending.returned (Value.bool b)) ?_,h1⟩
      cases hb:kh x.2 t.1 with
      |true=>exact (@bu _ (Classical.propDecidable _) ⟨x.1,D0,by rw [iQ.mp hb]⟩).symm
      |false=>
        refine (@aI _ (Classical.propDecidable _) ?_).symm;rintro ⟨u,hu,he⟩;have:=(Ki D0 CH hu DY he).2;rw [this] at hb;rw [iQ.mpr rfl] at hb
        cases hb))
     have HN:=hide iq;have YQ:=hide Dv;clear AA iu aiE hM5 Xr br U5 Dv iq;refine (ae HDF).mono ?_;rintro e w6 ⟨rfl,Xt,YW⟩;have HGL:Hid (∃ye,ye.Sublist gl/\(∀x∈ye,∀u:ByteArray,u.size<=8->x.1≠gk u t.1)/\j7 w6 189 mg (eZ ng.val ye)/\CM (cw tl gl) t=((0,0),⟨oB (eZ fF.told tl) (tk t.1),eZ ng.told ye⟩)):=hide (by
      rw [O2] at Xt;have Rz:(8:Nat)<=maxLen:=by unfold maxLen;omega
      have iu:=(ae Gu).gr;refine ⟨gl.filter λx=>!@decide (∃u:ByteArray,u.size<=maxLen/\x.1=gk u t.1) (Classical.propDecidable _),List.filter_sublist,λx hx u hu e=>?_,?_,?_⟩
      . have h1:=(gp.mp hx).2
        rw [@bu _ (Classical.propDecidable _) ⟨u,aw hu Rz,e⟩] at h1
        cases h1
      . have h2:=j7.ofG Xt
        unfold eZ at h2 ⊢;rw [qu] at h2;exact h2
      . unfold CM cw
        simp only;rw [fY,hg];simp only [Option.map_some,Option.isSome_some,if_true];congr 2;unfold eZ;rw [qu];congr 1;apply List.filter_congr;intro x hx;obtain ⟨u',t',h1,h2,h3,-⟩:=iu x hx;simp only [Function.comp];congr 1;by_cases hq:∃u:ByteArray,u.size<=maxLen/\x.1=gk u t.1
        . rw [@bu _ (Classical.propDecidable _) hq]
          obtain ⟨u,hu,e⟩:=hq;rw [h1] at e;obtain ⟨rfl,rfl⟩:=Ki (aw h2 Rz) (aw h3 Rz) hu DY e;exact @bu _ (Classical.propDecidable _) ⟨_,h2,h1⟩
        . rw [@aI _ (Classical.propDecidable _) hq]
          exact @aI _ (Classical.propDecidable _) (λ⟨u,hu,e⟩=>hq ⟨u,aw hu Rz,e⟩))
     have hf6:=(YW.block (w.heap.size+1) (az (ae YQ)) (λe=>by cases e;exact ((ae Gu).yA.lV (ae CA)))).trans (ae YQ);obtain ⟨g0,g1⟩:=bj hf6;have y0:=lz hf6 0;have y1:=lz hf6 1;have HF6:=hide hf6;have HG6:=hide YW;clear Xt hf6 YW;go_wp2_with fail;obtain ⟨d0,d1⟩:=bj (aO _ _ 1 _ _ (.int .i64 0) (aO _ _ 0 _ _ (.int .i64 0) (ae HF6)));refine ay (v:=.agg #[.int .i64 0,.int .i64 0]) (by simp [results,Tryz.results215,go_sem,d0,d1];try rfl) rfl ?_;obtain ⟨ye,yH,YL,U2,aiG⟩:=ae HGL;rw [aiG];have AA:=ae Gu;have Ah:=ae r6;have iu:=ae UG;have YW:=ae HG6;have an9:mt≠w.heap.size+1:=λe=>AA.yz.lV (by rw [e];exact ae CA);have aoa:mg≠w.heap.size+1:=λe=>AA.yA.lV (by rw [e];exact ae CA);have hM5:=ae HM;rw [tC] at hM5;have hM6:=hM5.kept (w':=w6) (YW.block mt hM5.lt (λe=>AA.ne (aS e)));have P5:∀b,b≠w.heap.size+1->((w6.setCell ⟨w.heap.size+1,0,none⟩ (.int .i64 0)).setCell ⟨w.heap.size+1,1,none⟩ (.int .i64 0)).heap[b]?=w6.heap[b]?:=λb hb=>(aD _ _ _ _ hb).trans (aD _ _ _ _ hb);have hK6:aQ (λb=>b<w.heap.size/\b≠mt/\b≠mg) w w6:=aQ.trans (b:=W2.drew) ⟨Ah.os,Ah.tape,Ah.output,Ah.size,λb hb=>Ah.block b hb.1⟩ (aQ.trans (b:=w5) ⟨iu.os,iu.tape,iu.output,iu.size,λb hb=>iu.block b (aF hb.1 Ah.size) (λe=>hb.2.1 (aS e))⟩ ⟨YW.os,YW.tape,YW.output,YW.size,λb hb=>YW.block b (aF hb.1 (aw Ah.size iu.size)) (λe=>hb.2.2 (aS e))⟩);exact (ae HH).dropped yH YL (hM6.kept (P5 mt an9)) (U2.kept (P5 mg aoa)) ((hK6.setCell (λhk=>by have:=hk.1;simp at this;omega) _).setCell (λhk=>by have:=hk.1;simp at this;omega) _) rfl
end
end Go.Proofs.YteniahoehoncjaaGreatDoor
