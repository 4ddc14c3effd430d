import Derived.Test.YteniahoehoncjaaGreatDoorQBF
set_option maxHeartbeats 99999999
set_option maxRecDepth 100000
namespace Go.Proofs.YteniahoehoncjaaGreatDoor
open Go.RowKit
section
open Go.Maps
theorem P8 {o:rO}{w:World}{p mt mg:Nat}{X:Nat->Prop}{tl:List (Lit×fF)}{gl:List (Lit×ng)}(h:cx o w p mt mg X tl gl){u t:Nm}(hu:mN u)(ht:mN t) :
 Calls Tryz.prog 218 #[.agg #[.string u.1,.int .i64 u.2,.string t.1,.int .i64 t.2],.pointer (some ⟨p,0,none⟩)] w λr w'=>jR o w w' p mt mg X tl (r8 (cw tl gl) u t) r:=by
 have Rz:(8:Nat)<=maxLen:=by unfold maxLen;omega
 have hu8:=aw hu.1 Rz;have DY:=aw ht.1 Rz;obtain ⟨s0,s1,s2,s3,s4,s5,s6,s7⟩:=dG h.dV;have hp:=az h.dV;obtain ⟨W,hW⟩:∃W,W=((w.alloc (.cells #[.string u.1,.int .i64 u.2,.string t.1,.int .i64 t.2] 132)).alloc (.cells #[.int .i64 0,.int .i64 0] 72)).alloc (.cells #[.string u.1,.string t.1] 189):=⟨_,rfl⟩;have lK:Below w.heap.size w W:=by rw [hW];exact (((ag _ _).alloc (af _) _).alloc (by simp) _).alloc (by simp;omega) _
 have za:W.heap.size=w.heap.size+3:=by rw [hW];simp
 have fN:W.heap[w.heap.size]?=some (.cells #[.string u.1,.int .i64 u.2,.string t.1,.int .i64 t.2] 132 (0,0))/\W.heap[w.heap.size+1]?=some (.cells #[.int .i64 0,.int .i64 0] 72 (0,0))/\W.heap[w.heap.size+2]?=some (.cells #[.string u.1,.string t.1] 189 (0,0)):=by rw [hW];exact wJ w _ _ _
 have HB:=hide (λwr (hb:Below W.heap.size W wr)=>(show cx o wr p mt mg X tl gl/\Below w.heap.size w wr/\wr.heap[w.heap.size]?=some (.cells #[.string u.1,.int .i64 u.2,.string t.1,.int .i64 t.2] 132 (0,0))/\wr.heap[w.heap.size+1]?=some (.cells #[.int .i64 0,.int .i64 0] 72 (0,0))/\wr.heap[w.heap.size+1+1]?=some (.cells #[.string u.1,.string t.1] 189 (0,0)) from by
  have h1:=lK.trans (hb.mono (by omega));exact ⟨h.below h1,h1,(hb.block _ (by omega)).trans fN.1,(hb.block _ (by omega)).trans fN.2.1,(hb.block _ (by omega)).trans fN.2.2⟩))
 have HW:=hide hW;obtain ⟨hS,-,bL,bO,eD⟩:=ae HB W (ag _ _);obtain ⟨c0,c1,c2,c3⟩:=pW bL;obtain ⟨k0,k1⟩:=bj eD;obtain ⟨f0,f1⟩:=bj bO;have z0:=lz bO 0;have z1:=lz bO 1;have jg:=hide bO;have oD:=hide lK;obtain ⟨e0,e1,e2,e3,e4,e5,e6,e7⟩:=dG hS.dV;have hpW:=az hS.dV;have Db:=az bL;have Kc:=az bO;have hl3:=az eD;have N4:=(hS.below (aJ (ag _ _))).Jb hu8 DY;have N5:=(hS.below (aJ ((ag _ _).alloc (af _) (.cells #[.slice none 0 0,.nilFunc] 139)))).Jb hu8 DY;have rsn:=lU;have HH:=hide h
 cases hg:eA gl (gk u.1 t.1) with
 |none=>
   simp only [hg] at N4 N5;have zA:Hid (r8 (cw tl gl) u t=((5,u.2),cw tl gl)):=hide (by unfold r8 cw;simp only;rw [fY,hg];rfl);clear h hW lK fN hS bL bO eD hg za;go_enter Tryz.func218,Tryz.ntmps218;go_wp2_with fail;rw [<- ae HW];go_region
   all_goals
    (try go_wp2_with fail)
    obtain ⟨⟨d0,d1⟩,d2⟩:=D5 (ae oD) (cq _) (ae jg) (.int .i64 5) (.int .i64 u.2) (.cells #[.slice none 0 0,.nilFunc] 139);refine ay (v:=.agg #[.int .i64 5,.int .i64 u.2]) (by simp [results,Tryz.results218,go_sem,d0,d1];try rfl) rfl ?_;rw [ae zA];exact (ae HH).same d2 (5,u.2) rfl
 |some g=>
   simp only [hg] at N4 N5;unfold ng.val at N4 N5;obtain ⟨u',t',hk,hu9,ht9,tc',xV,yT⟩:=h.gr _ (kA hg);obtain ⟨sa,mb,Og⟩:=bF.slice yT.shr;have LH:=yT.work;obtain ⟨k2,iy,Ts,-⟩:=LH;rw [Og,Ts] at N4 N5;have rsf:=k9 k2 iy;have HG:Hid (r8 (cw tl gl) u t=((0,0),cw tl (oB gl (gk u.1 t.1)))):=hide (by
    unfold r8 cw;simp only;rw [fY,hg,tC];rfl)
   have HWL:=hide (aJ ((ag W.heap.size W).alloc (af _) (.cells #[.slice sa g.sh.length mb,.func (.func k2) #[] iy] 139)));clear h hW lK fN hS bL bO eD hg za yT hk xV Og Ts;go_enter Tryz.func218,Tryz.ntmps218;go_wp2_with fail;rw [<- ae HW];go_region
   all_goals
    (try go_wp2_with fail)
    obtain ⟨W2,La⟩:∃W2,W2=(W.alloc (.cells #[.slice sa g.sh.length mb,.func (.func k2) #[] iy] 139)).drew:=⟨_,rfl⟩;rw [<- La] at HWL ⊢;obtain ⟨AA,aiD,-,xN,nQ⟩:=ae HB W2 (ae HWL);have xI:=AA.below (aJ (ag _ _));obtain ⟨w5,PH,hM,iu⟩:=xI.yA.del Tryz.qG Tryz.underlying67 (E6 hu8 DY) 0;rw [tC] at hM;have RU:w.heap.size+1≠mg:=λe=>xI.yA.lV (by rw [<- e];exact xN);have Dv:=(iu.block (w.heap.size+1) (az xN) (λe=>RU (aS e))).trans xN;obtain ⟨g0,g1⟩:=bj Dv;have y0:=lz Dv 0;have y1:=lz Dv 1;obtain ⟨m0,m1,m2,m3,m4,m5,m6,m7⟩:=dG AA.dV;obtain ⟨n0,n1⟩:=bj nQ;have HM:=hide hM;have HMF:=hide RU;have HMG:=hide xI.yA.lt;have YQ:=hide Dv;have UG:=hide iu;have r6:=hide aiD;clear RU La AA xI hM Dv xN nQ iu aiD e0 e1 e2 e3 e4 e5 e6 e7 c0 c1 c2 c3 k0 k1 f0 f1 z0 z1 N4 N5;go_region
    all_goals
     (try go_wp2_with fail)
     obtain ⟨d0,d1⟩:=bj (aO _ _ 1 _ _ (.int .i64 0) (aO _ _ 0 _ _ (.int .i64 0) (ae YQ)));refine ay (v:=.agg #[.int .i64 0,.int .i64 0]) (by simp [results,Tryz.results218,go_sem,d0,d1];try rfl) rfl ?_;rw [ae HG];have Kc:=ae r6;have iu:=ae UG;have hK5:aQ (λb=>b<w.heap.size/\b≠mg) w w5:=aQ.trans (b:=W2.drew) ⟨Kc.os,Kc.tape,Kc.output,Kc.size,λb hb=>Kc.block b hb.1⟩ ⟨iu.os,iu.tape,iu.output,iu.size,λb hb=>iu.block b (aF hb.1 Kc.size) (λe=>hb.2 (aS e))⟩;have iq:mg≠w.heap.size+1:=λe=>ae HMF e.symm;exact (ae HH).lost (f:=(0,0)) List.filter_sublist ((ae HM).kept ((aD _ _ _ _ iq).trans (aD _ _ _ _ iq))) ((hK5.setCell (λhk=>by have:=hk.1;simp at this;omega) _).setCell (λhk=>by have:=hk.1;simp at this;omega) _) rfl
theorem P9 {o:rO}{w:World}{p mt mg:Nat}{X:Nat->Prop}{tl:List (Lit×fF)}{gl:List (Lit×ng)}(h:cx o w p mt mg X tl gl){t:Nm}(ht:mN t){cols:List (Nm×Nat)}(Ev:cols≠[])(U1:∀c∈cols,mN c.1/\c.2<=2)(vQ:cols.length<=302){v:Value}(hv:bF w 3 v cols.length (tJ cols)) :
 Calls Tryz.prog 220 #[.agg #[.string t.1,.int .i64 t.2,v],.pointer (some ⟨p,0,none⟩)] w λr w'=>jR o w w' p mt mg X tl (oN (cw tl gl) t cols) r:=by
 have DY:t.1.size<=maxLen:=by have:=ht.1;unfold maxLen;omega
 obtain ⟨va,cJ,rfl⟩:=bF.slice hv;obtain ⟨W,hW⟩:∃W,W=(w.alloc (.cells #[.string t.1,.int .i64 t.2,.slice va cols.length cJ] 166)).alloc (.cells #[.int .i64 0,.int .i64 0] 72):=⟨_,rfl⟩;have lK:Below w.heap.size w W:=by rw [hW];exact ((ag _ _).alloc (af _) _).alloc (by simp) _
 have za:W.heap.size=w.heap.size+2:=by rw [hW];simp
 have fN:W.heap[w.heap.size]?=some (.cells #[.string t.1,.int .i64 t.2,.slice va cols.length cJ] 166 (0,0))/\W.heap[w.heap.size+1]?=some (.cells #[.int .i64 0,.int .i64 0] 72 (0,0)):=by
  rw [hW];have e2:=ai (w.alloc (.cells #[.string t.1,.int .i64 t.2,.slice va cols.length cJ] 166)) (.cells #[.int .i64 0,.int .i64 0] 72);rw [show (w.alloc (.cells #[.string t.1,.int .i64 t.2,.slice va cols.length cJ] 166)).heap.size=w.heap.size+1 by simp] at e2;exact ⟨(dX _ _ (by simp)).trans (ai w _),e2⟩
 have HB:=hide (λwr (hb:Below W.heap.size W wr)=>(show cx o wr p mt mg X tl gl/\Below w.heap.size w wr/\wr.heap[w.heap.size]?=some (.cells #[.string t.1,.int .i64 t.2,.slice va cols.length cJ] 166 (0,0))/\wr.heap[w.heap.size+1]?=some (.cells #[.int .i64 0,.int .i64 0] 72 (0,0))/\bF wr 3 (.slice va cols.length cJ) cols.length (tJ cols) from by
  have h1:=lK.trans (hb.mono (by omega));exact ⟨h.below h1,h1,(hb.block _ (by omega)).trans fN.1,(hb.block _ (by omega)).trans fN.2,bF.below hv h1 (af _)⟩))
 have HW:=hide hW;obtain ⟨hS,-,bL,bO,-⟩:=ae HB W (ag _ _);obtain ⟨c0,c1,c2⟩:=aR bL;obtain ⟨f0,f1⟩:=bj bO;have z0:=lz bO 0;have z1:=lz bO 1;obtain ⟨e0,e1,e2,e3,e4,e5,e6,e7⟩:=dG hS.dV;have hpW:=az hS.dV;have Db:=az bL;have Kc:=az bO;have xG:=hS.find DY;have o7:=(hS.below (aJ (ag _ _))).find DY;have HH:=hide h;have jg:=hide bO;have oD:=hide lK
 cases hg:eA tl (tk t.1) with
 |some tc=>
   simp only [hg] at xG o7;unfold fF.val at xG o7;have zA:Hid (oN (cw tl gl) t cols=((6,t.2),cw tl gl)):=hide (by unfold oN cw;simp only;rw [fY,hg];rfl);clear h hW lK fN hS bL bO hg za hv;go_enter Tryz.func220,Tryz.ntmps220;go_wp2_with fail;rw [<- ae HW];go_region
   all_goals
    (try go_wp2_with fail)
    obtain ⟨⟨d0,d1⟩,d2⟩:=eX (w1:=W) (ae oD) (cq _) (ae jg) (.int .i64 6) (.int .i64 t.2);refine ay (v:=.agg #[.int .i64 6,.int .i64 t.2]) (by simp [results,Tryz.results220,go_sem,d0,d1];try rfl) rfl ?_;rw [ae zA];exact (ae HH).same (aJ d2) (6,t.2) rfl
 |none=>
   simp only [hg] at xG o7;clear h hW lK fN hS bL bO za hv;go_enter Tryz.func220,Tryz.ntmps220;go_wp2_with fail;rw [<- ae HW];have HCP:Hid (oN (cw tl gl) t cols=match wT cols [] with|.inl b=>((6,b),cw tl gl)|.inr l=>if 4<=tl.length\/5<l.length then ((8,0),cw tl gl) else ((0,0),⟨oK (eZ fF.told tl) (tk t.1) (l,[]),eZ ng.told gl⟩)):=hide (by
    unfold oN cw;simp only;rw [fY,hg]
    cases wT cols [] with
    |inl b=>rfl
    |inr l=>simp [eZ])
   have HG:=hide hg;have HCF:=hide U1;obtain ⟨i0,yv,jS,jD,jv⟩:=lE Tryz.LZ;clear hg U1;go_region
   all_goals
    (try go_wp2_with fail)
    have HD0:Hid (Below W.heap.size W W.drew):=hide (aJ (ag _ _));clear xG o7 c0 c1 c2 f0 f1 z0 z1 e0 e1 e2 e3 e4 e5 e6 e7;go_loopw [5,24] (λv c wr=>∃(i:Nat) (cl:List cU),i<=cols.length/\Hid (cl.length=i)/\c=.int .i64 i/\Hid (wT cols []=wT (cols.drop i) cl)/\Hid (∀x∈cl,x.1.size<=8/\x.2<=2)/\Hid (wr.ownsRow W.heap.size 191 2 v cl.length (cl.flatMap pV))/\Hid (Below W.heap.size W wr)) (λ_ c _=>cols.length - (intOf c).toNat)
    case atStart=>exact ⟨0,[],aN _,hide rfl,rfl,hide rfl,hide (λx hx=>by simp at hx),hide ⟨rfl,.inl ⟨rfl,rfl⟩⟩,HD0⟩
    case round=>
     obtain ⟨i,cl,hi,LV,rfl,YX,HCX,HOW,qx⟩:=hrel;obtain ⟨XA,nG,bL,bO,Ha⟩:=ae HB wr (ae qx);by_cases cF:i<cols.length
     . have jI:(i:Int)<cols.length:=by omega
       obtain ⟨c,kM⟩:∃c,cols[i]?=some c:=⟨_,ah cF⟩;have UO:=hide (ae HCF c (aG kM));have ZQ:cols.drop i=c::cols.drop (i+1):=by rw [dA cF];congr 1;exact (ak.mp kM).2
       have Nl:Hid (wT cols []=if 0<=yN cl c.1.1 then .inl c.1.2 else wT (cols.drop (i+1)) (cl++[(c.1.1,c.2)])):=hide (by rw [ae YX,ZQ];rfl);obtain ⟨vg,vo,AW,he,-,hvg,hx⟩:=bF.at Ha (by omega)
       cases he
       have x0:wr.cell? ⟨vg,vo+i*3,none⟩=some (.string c.1.1):=hx (i*3) _ (dc Ho 3 (λ_=>rfl) cols kM (j:=0) (by decide));have x1:wr.cell? ⟨vg,vo+i*3+1,none⟩=some (.int .i64 c.1.2):=hx (i*3+1) _ (dc Ho 3 (λ_=>rfl) cols kM (j:=1) (by decide));have x2:wr.cell? ⟨vg,vo+i*3+2,none⟩=some (.int .i64 c.2):=hx (i*3+2) _ (dc Ho 3 (λ_=>rfl) cols kM (j:=2) (by decide));obtain ⟨W1,qH⟩:∃W1,W1=wr.alloc (.cells #[.string c.1.1,.int .i64 c.1.2,.int .i64 c.2] 163):=⟨_,rfl⟩;have ph:Below wr.heap.size wr W1:=by rw [qH];exact (ag _ _).alloc (af _) _
       have nN:W1.heap[wr.heap.size]?=some (.cells #[.string c.1.1,.int .i64 c.1.2,.int .i64 c.2] 163 (0,0)):=by rw [qH];exact ai wr _
       have how:=ae HOW;obtain ⟨ka,iG,rfl,-,-⟩:=di how;have TU:=du how ph;have HIX:=hide (DR cl (.slice ka cl.length iG) c.1.1 W1 (bF.jt TU) (by rw [ae LV];omega));have Z9:=hide TU;have vH:=hide nN;have Ga:=hide ((ae qx).trans (ph.mono (ae qx).size));have xX:=hide qH;clear XA nG bL bO Ha hx qH ph nN how TU kM ZQ;go_wp2_with fail;rw [<- ae xX];refine (ae HIX).mono ?_;rintro e w2 ⟨rfl,bO⟩;have nQ:=(bO.block _ (az (ae vH))).trans (ae vH);obtain ⟨k0,k1,k2⟩:=aR nQ;have qR:=(ae Ga).trans (bO.mono (ae Ga).size);have Wo:=qR.size;have ug:=hide (du (ae Z9) bO);have ZO:=az nQ;obtain ⟨AA,CW,-,xN,-⟩:=ae HB w2 qR;obtain ⟨f0,f1⟩:=bj xN;have z0:=lz xN 0;have z1:=lz xN 1;have CA:=hide xN;have r6:=hide CW;have Gb:=hide qR;clear bO nQ qR AA CW xN x0 x1 x2;by_cases UY:0<=yN cl c.1.1
       . have aod:(yN cl c.1.1>=0):=UY
         have zA:Hid (oN (cw tl gl) t cols=((6,c.1.2),cw tl gl)):=hide (by rw [ae HCP,ae Nl,aH UY]);go_wp2_with fail;obtain ⟨⟨d0,d1⟩,d2⟩:=eX (ae r6) (cq _) (ae CA) (.int .i64 6) (.int .i64 c.1.2);refine ay (v:=.agg #[.int .i64 6,.int .i64 c.1.2]) (by simp [results,Tryz.results220,go_sem,d0,d1];try rfl) rfl ?_;rw [ae zA];exact (ae HH).same d2 (6,c.1.2) rfl
       . have aod:¬(yN cl c.1.1>=0):=UY
         have Xy:Hid (wT cols []=wT (cols.drop (i+1)) (cl++[(c.1.1,c.2)])):=hide (by rw [ae Nl,aA UY]);have Ez:=hide ((ae ug).alloc (.cells #[.string c.1.1,.int .i64 c.2] 191));have yU:=hide (World.news_of_block (w:=w2.alloc (.cells #[.string c.1.1,.int .i64 c.2] 191)) (B:=w2.heap.size) (ai w2 (.cells #[.string c.1.1,.int .i64 c.2] 191)));have Vo:Hid (cl.length+1<=maxLen):=hide (by rw [ae LV];unfold maxLen;omega);have Q9:Hid ((cl.length+1)*24<=140737488355328):=hide (by rw [ae LV];omega);have IJ:Hid (W.heap.size<=(w2.alloc (.cells #[.string c.1.1,.int .i64 c.2] 191)).heap.size):=hide (by simp;omega);go_wp2_with (at_builtin;refine oY _ rfl _ _ 146 rfl W.heap.size 191 i0 _ 2 24 Tryz.underlying146 yv jS jD jv rfl (by decide) (.slice ka cl.length iG) cl.length (cl.flatMap pV) rfl (ae Ez) ⟨w2.heap.size,0,none⟩ 1 1 (pV (c.1.1,c.2)) rfl rfl (ae yU) (Ra _) (ae Vo) (ae Q9) (ae IJ) ?_);intro v' w3 ld ja _;have xD:Hid (w3.ownsRow W.heap.size 191 2 v' (cl++[(c.1.1,c.2)]).length ((cl++[(c.1.1,c.2)]).flatMap pV)):=hide (by rw [au,eM,List.flatMap_singleton];exact ld);have px:Hid (Below W.heap.size W w3):=hide ((((ae Gb).alloc Wo _)).grown ja (ae IJ) (λk hk=>((ae Ez).lt k hk).1));have Xz:Hid ((cl++[(c.1.1,c.2)]).length=i+1):=hide (by rw [au,ae LV];rfl);have aiL:Hid (∀x∈cl++[(c.1.1,c.2)],x.1.size<=8/\x.2<=2):=hide (λx hx=>by
          rw [dm,dy] at hx;rcases hx with hx|rfl
          . exact ae HCX x hx
          . exact ⟨(ae UO).1.1,(ae UO).2⟩)
         clear ld ja;go_wp2_with fail
         first
         |exact ⟨⟨i+1,_,by omega,Xz,by go_num,Xy,aiL,xD,px⟩,by simp [intOf];omega⟩
         | (go_roundw
            case rel=>exact ⟨i+1,_,by omega,Xz,by go_num,Xy,aiL,xD,px⟩
            case measure=>simp [intOf];omega)
     . obtain rfl:i=cols.length:=by omega
       have zA:Hid (oN (cw tl gl) t cols=if 4<=tl.length\/5<cl.length then ((8,0),cw tl gl) else ((0,0),⟨oK (eZ fF.told tl) (tk t.1) (cl,[]),eZ ng.told gl⟩)):=hide (by rw [ae HCP,ae YX,iO];rfl);have OU:(eZ fF.val tl).length=tl.length:=by unfold eZ;rw [aW]
       have hlen:=λty=>XA.yz.len Tryz.underlying66 ty;rw [OU] at hlen;have Nn:=hlen 3;obtain ⟨e0,e1,e2,e3,e4,e5,e6,e7⟩:=dG XA.dV;obtain ⟨c0,c1,c2⟩:=aR bL;obtain ⟨f0,f1⟩:=bj bO;have z0:=lz bO 0;have z1:=lz bO 1;have how:=ae HOW;obtain ⟨ka,iG,YI,hka,-⟩:=di how;have HSI:=hide XA;have Qa:=hide bO;have HLI:=hide nG;have hpi:=az XA.dV;have hqi:=az bL;have hfi:=az bO;subst YI;clear XA nG bL bO Ha hlen how;by_cases hA:4<=tl.length
       . have hA':((tl.length:Nat):Int)>=4:=by omega
         rw [aH (.inl hA)] at zA;go_wp2_with fail;obtain ⟨⟨d0,d1⟩,d2⟩:=eX (ae HLI) (cq _) (ae Qa) (.int .i64 8) (.int .i64 0);refine ay (v:=.agg #[.int .i64 8,.int .i64 0]) (by simp [results,Tryz.results220,go_sem,d0,d1];try rfl) rfl ?_;rw [ae zA];exact (ae HH).same d2 (8,0) rfl
       . have hA':¬((tl.length:Nat):Int)>=4:=by omega
         by_cases hC:5<cl.length
         . have hC':((cl.length:Nat):Int)>5:=by omega
           rw [aH (.inr hC)] at zA;go_wp2_with fail;obtain ⟨⟨d0,d1⟩,d2⟩:=eX (ae HLI) (cq _) (ae Qa) (.int .i64 8) (.int .i64 0);refine ay (v:=.agg #[.int .i64 8,.int .i64 0]) (by simp [results,Tryz.results220,go_sem,d0,d1];try rfl) rfl ?_;rw [ae zA];exact (ae HH).same d2 (8,0) rfl
         . have hC':¬((cl.length:Nat):Int)>5:=by omega
           rw [aA (by omega)] at zA;obtain ⟨WU,hWU⟩:∃WU,WU=(wr.alloc (.cells #[.slice ka cl.length iG,.slice none 0 0,.int .i64 0] 194)).drew:=⟨_,rfl⟩;have YZ:Below wr.heap.size wr WU:=by rw [hWU];exact aJ ((ag _ _).alloc (af _) _)
           have hqU:WU.heap[wr.heap.size]?=some (.cells #[.slice ka cl.length iG,.slice none 0 0,.int .i64 0] 194 (0,0)):=by rw [hWU];exact ai wr _
           have hSU:=(ae HSI).below YZ;obtain ⟨w5,hup,hM,iu⟩:=hSU.yz.put Tryz.Kh Tryz.underlying66 (O4 DY) (by rw [OU];omega) (.pointer (some ⟨wr.heap.size,0,none⟩));have hfU:=(YZ.block _ (az (ae Qa))).trans (ae Qa);have RU:w.heap.size+1≠mt:=λe=>hSU.yz.lV (by rw [<- e];exact hfU);have hmq:wr.heap.size≠mt:=λe=>hSU.yz.lV (by rw [<- e];exact hqU);have Dv:=(iu.block (w.heap.size+1) (az hfU) (λe=>RU (aS e))).trans hfU;have U5:=(iu.block wr.heap.size (az hqU) (λe=>hmq (aS e))).trans hqU;obtain ⟨g0,g1⟩:=bj Dv;have y0:=lz Dv 0;have y1:=lz Dv 1;have adX:0<cl.length:=by rw [ae LV];exact nM.mpr Ev
           have how:=ae HOW;have hlI:=ae HLI;have OW:gQ (λb=>b<w.heap.size\/b=wr.heap.size\/b=mt\/b=w.heap.size+1) (.slice ka cl.length iG):=λa n c hv hm=>by
            have h1:=how.lt a.block (by rw [hv];rfl);have h2:=(ae HSI).yz.lt;have h3:=(ae HH).yz.lt;have h4:=az (ae Qa);have h5:=(ae oD).size;rcases hm with e|e|e|e
            . omega
            . omega
            . omega
            . have:=az (ae jg);omega
           have E5:Hid (∀W9,W9=(w5.setCell ⟨w.heap.size+1,0,none⟩ (.int .i64 0)).setCell ⟨w.heap.size+1,1,none⟩ (.int .i64 0)->jR o w W9 p mt mg X tl (oN (cw tl gl) t cols) (.returned (.agg #[.int .i64 0,.int .i64 0]))):=hide (by
            intro W9 e9;have U4:W9.heap.size=w5.heap.size:=by rw [e9];simp [World.setCell]
            have P5:∀b,b≠w.heap.size+1->W9.heap[b]?=w5.heap[b]?:=λb hb=>by rw [e9];exact (aD _ _ _ _ hb).trans (aD _ _ _ _ hb)
            have hK5:aQ (λb=>b<w.heap.size/\b≠mt) w w5:=aQ.trans (b:=WU) ⟨YZ.os.trans hlI.os,YZ.tape.trans hlI.tape,YZ.output.trans hlI.output,aw hlI.size YZ.size,λb hb=>(YZ.block b (aF hb.1 hlI.size)).trans (hlI.block b hb.1)⟩ ⟨iu.os,iu.tape,iu.output,iu.size,λb hb=>iu.block b (aF hb.1 (aw hlI.size YZ.size)) (λe=>hb.2 (aS e))⟩;have hK9:aQ (λb=>b<w.heap.size/\b≠mt) w W9:=by rw [e9];exact (hK5.setCell (λhk=>by have:=hk.1;simp at this;omega) _).setCell (λhk=>by have:=hk.1;simp at this;omega) _
            have hqf:wr.heap.size≠w.heap.size+1:=by have:=az (ae Qa);omega
            rw [ae zA];refine (ae HH).more ht.1 (ae HG) (by omega) (q:=wr.heap.size) (cv:=.slice ka cl.length iG) (cols:=cl) ?_ hK9 hlI.size ((P5 _ hqf).trans U5) ?_ (OW.mono (λb hb=>hb.imp id .inl)) ⟨by omega,ae HCX⟩ adX rfl
            . have hM9:=hM.kept (P5 mt RU.symm)
              rw [show (Value.pointer (some ⟨wr.heap.size,0,none⟩))=fF.val ⟨wr.heap.size,.slice ka cl.length iG,.slice none 0 0,[],cl,[]⟩ from rfl,wK] at hM9;exact hM9
            . have pj:gq wr (.slice ka cl.length iG) cl:=bF.jt how
              have N3:=pj.below YZ (af _);have Pk:gq w5 (.slice ka cl.length iG) cl:=bF.moves (M:=λb=>b=mt) N3 (OW.mono (λb hb=>.inr (.inr (.inl hb)))) iu.size (λb h1 h2=>iu.block b h1 (λe=>h2 (aS e)));exact bF.moves (M:=λb=>b=w.heap.size+1) Pk (OW.mono (λb hb=>.inr (.inr (.inr hb)))) (by rw [U4];exact af _) (λb _ h2=>P5 b h2))
           have YQ:=hide Dv;rw [hWU] at hup;clear hWU YZ hqU hSU hM iu hfU RU hmq Dv U5 how hlI OW;go_wp2_with fail;go_region
           all_goals
            (try go_wp2_with fail)
            obtain ⟨d0,d1⟩:=bj (aO _ _ 1 _ _ (.int .i64 0) (aO _ _ 0 _ _ (.int .i64 0) (ae YQ)));refine ay (v:=.agg #[.int .i64 0,.int .i64 0]) (by simp [results,Tryz.results220,go_sem,d0,d1];try rfl) rfl ?_;exact ae E5 _ rfl
theorem Qb (seg pk wd bud:Int)(prune push:Bool)(w:World):Calls Tryz.prog 20 #[.agg #[.int .i64 seg,.int .i64 pk,.int .i64 wd,.bool prune,.bool push,.int .i64 bud]] w λe w'=>e=.returned (.agg #[.int .i64 (min (max seg 1) 16),.int .i64 (if 0<=pk/\pk<=3 then pk else 0),.int .i64 (min (max wd 1) 16),.bool prune,.bool push,.int .i64 (min (max bud 0) 4096)])/\Below w.heap.size w w':=by
 go_enter Tryz.func20,Tryz.ntmps20;go_wp2_with fail;refine (S.sF pk _).mono ?_;rintro e w1 ⟨rfl,rfl⟩;by_cases hp:0<=pk/\pk<=3
 . rw [bu hp]
   go_wp2_with fail;refine ay (v:=.agg #[.int .i64 (min (max seg 1) 16),.int .i64 pk,.int .i64 (min (max wd 1) 16),.bool prune,.bool push,.int .i64 (min (max bud 0) 4096)]) (by simp [results,Tryz.results20,go_sem];try rfl) rfl ?_;exact ⟨by first|rfl|simp [hp],((ag _ _).alloc (af _) _).alloc (by simp) _⟩
 . rw [aI hp]
   go_wp2_with fail;refine ay (v:=.agg #[.int .i64 (min (max seg 1) 16),.int .i64 0,.int .i64 (min (max wd 1) 16),.bool prune,.bool push,.int .i64 (min (max bud 0) 4096)]) (by simp [results,Tryz.results20,go_sem];try rfl) rfl ?_;exact ⟨by first|rfl|simp [hp],((ag _ _).alloc (af _) _).alloc (by simp) _⟩
def rF (seg pk wd bud:Int)(prune push:Bool):rO:=
 ⟨(min (max seg 1) 16).toNat,(if 0<=pk/\pk<=3 then pk else 0).toNat,(min (max wd 1) 16).toNat,prune,push,(min (max bud 0) 4096).toNat,by omega,by omega,by split<;>omega,by omega,by omega,by omega⟩
theorem aaO (seg pk wd bud:Int)(prune push:Bool)(w:World):Calls Tryz.prog 13 #[.agg #[.int .i64 seg,.int .i64 pk,.int .i64 wd,.bool prune,.bool push,.int .i64 bud]] w λe w'=>∃p mt mg,e=.returned (.pointer (some ⟨p,0,none⟩))/\cx (rF seg pk wd bud prune push) w' p mt mg (vP mt mg []) [] []/\w.heap.size<=mt/\w.heap.size<=mg/\w.heap.size<=p/\Below w.heap.size w w':=by
 obtain ⟨pk',hpk⟩:∃x,x=if 0<=pk/\pk<=3 then pk else 0:=⟨_,rfl⟩
 have HBD:=hide (λw=>Qb seg pk wd bud prune push w);rw [<- hpk] at HBD;have HPK:=hide hpk;clear hpk;have UD:=@run_makeMap Tryz.prog;go_enter Tryz.func13,Tryz.ntmps13;go_wp2_with fail;refine (ae HBD _).mono ?_;rintro e w1 ⟨rfl,bL⟩;have eI:=hide (((ag w.heap.size w).alloc (af _) _).trans (bL.mono (by simp)));clear bL;go_wp2_with fail;go_ret;have hb:=ae eI;have hz:=hb.size;have hpk:=ae HPK;obtain ⟨h1,h2,h3⟩:=wJ w1 (.map #[] 0) (.map #[] 0) (.cells #[.int .i64 (min (max seg 1) 16),.int .i64 pk',.int .i64 (min (max wd 1) 16),.bool prune,.bool push,.int .i64 (min (max bud 0) 4096),.map (some w1.heap.size),.map (some (w1.heap.size+1))] 69);have e1:(((min (max seg 1) 16).toNat:Nat):Int)=min (max seg 1) 16:=by omega
 have e2:(((if 0<=pk/\pk<=3 then pk else 0).toNat:Nat):Int)=pk':=by rw [hpk];split<;>omega
 have e3:(((min (max wd 1) 16).toNat:Nat):Int)=min (max wd 1) 16:=by omega
 have e4:(((min (max bud 0) 4096).toNat:Nat):Int)=min (max bud 0) 4096:=by omega
 refine ⟨w1.heap.size+2,w1.heap.size,w1.heap.size+1,rfl,?_,hz,by omega,by omega,((hb.alloc hz _).alloc (by simp;omega) _).alloc (by simp;omega) _⟩;exact
  { dV:=by
     show _=some (Obj.cells #[.int .i64 (((min (max seg 1) 16).toNat:Nat):Int),.int .i64 (((if 0<=pk/\pk<=3 then pk else 0).toNat:Nat):Int),.int .i64 (((min (max wd 1) 16).toNat:Nat):Int),.bool prune,.bool push,.int .i64 (((min (max bud 0) 4096).toNat:Nat):Int),.map (some w1.heap.size),.map (some (w1.heap.size+1))] 69 (0,0));rw [e1,e2,e3,e4];exact h3
    yz:=(j7.made w1 9).kept (h1.trans (ai w1 _).symm)
    yA:=by
     have h:=j7.made (w1.alloc (.map #[] 0)) 189;have hs:(w1.alloc (.map #[] 0)).heap.size=w1.heap.size+1:=by simp
     have h4:=ai (w1.alloc (.map #[] 0)) (.map #[] 0);rw [hs] at h h4;exact h.kept (h2.trans h4.symm)
    ne:=by omega
    tab:=λx hx=>by simp at hx
    apart:=List.Pairwise.nil
    gr:=λx hx=>by simp at hx
    names:=λx hx=>by simp at hx
    sub:=λ_ hb=>hb
    nO:=λb hb=>by
     have hs:(((w1.alloc (.map #[] 0)).alloc (.map #[] 0)).alloc (.cells #[.int .i64 (min (max seg 1) 16),.int .i64 pk',.int .i64 (min (max wd 1) 16),.bool prune,.bool push,.int .i64 (min (max bud 0) 4096),.map (some w1.heap.size),.map (some (w1.heap.size+1))] 69)).heap.size=w1.heap.size+3:=by simp
     rw [hs];rcases hb with e|e|⟨x,hx,-⟩
     . omega
     . omega
     . simp at hx
    pX:=λhb=>by
     rcases hb with e|e|⟨x,hx,-⟩
     . omega
     . omega
     . simp at hx
    few:=⟨by simp,by simp⟩ }
theorem aaP (m:Nat)(w:World):(binOp .eql 66 (.map (some m)) (.map none)).run Tryz.prog w=.ok (.bool false) w:=by
 first
 |rfl
 |go_simp
theorem XB {o:rO}{w:World}{p mt mg:Nat}{X:Nat->Prop}{tl:List (Lit×fF)}{gl:List (Lit×ng)}(h:cx o w p mt mg X tl gl):Calls Tryz.prog 23 #[.pointer (some ⟨p,0,none⟩)] w λr w'=>r=.returned (.pointer (some ⟨p,0,none⟩))/\Below w.heap.size w w':=by
 obtain ⟨s0,s1,s2,s3,s4,s5,s6,s7⟩:=dG h.dV;clear h;have hem:=aaP mt;go_enter Tryz.func23,Tryz.ntmps23;go_wp2_with fail;go_ret;exact ⟨rfl,ag _ _⟩
def si (cols:List cU)(e:Ex)(pl:Nat):Nat×Nat:=match cV cols e with|.inr f=>f|.inl k=>if k≠2 then (7,pl) else (0,0)
theorem Ib {w:World}{cols:List cU}{cv:Value}{e:Ex}{pl:Nat}(Bl:vO e)(hc:gq w cv cols)(h5:cols.length<=5):Calls Tryz.prog 229 #[.agg #[.int .i64 pl,qL e],cv] w λr w'=>r=.returned (.agg #[.int .i64 (si cols e pl).1,.int .i64 (si cols e pl).2])/\Below w.heap.size w w':=by
 obtain ⟨te,jW,hm,U1⟩:=uP e;obtain ⟨W,hW⟩:∃W,W=(w.alloc (.cells #[.int .i64 pl,.iface te (uh e)] 180)).alloc (.cells #[.int .i64 0,.int .i64 0] 72):=⟨_,rfl⟩;have hb:Below w.heap.size w W:=by rw [hW];exact ((ag _ _).alloc (af _) _).alloc (by simp) _
 have hR:W.heap[w.heap.size+1]?=some (.cells #[.int .i64 0,.int .i64 0] 72 (0,0)):=by
  rw [hW];have e2:=ai (w.alloc (.cells #[.int .i64 pl,.iface te (uh e)] 180)) (.cells #[.int .i64 0,.int .i64 0] 72);rw [show (w.alloc (.cells #[.int .i64 pl,.iface te (uh e)] 180)).heap.size=w.heap.size+1 by simp] at e2;exact e2
 have hS:W.heap[w.heap.size]?=some (.cells #[.int .i64 pl,.iface te (uh e)] 180 (0,0)):=by rw [hW];exact (dX _ _ (by simp)).trans (ai w _)
 have HI:=hide (ael (cols:=cols) (cv:=cv) (by omega) e Bl W (hc.below hb (af _)));have HB:=hide hb;have HR:=hide hR;have HS:=hide hS;have HW:=hide hW;obtain ⟨ca,kV,hv⟩:=hc.slice;subst hv;clear hc hb hR hW hS;rw [jW];go_enter Tryz.func229,Tryz.ntmps229;go_wp2_with fail;rw [<- ae HW];refine (ae HI).mono ?_;rintro r w1 ⟨hr,bL⟩;obtain ⟨k1,f,b,rfl,kH⟩:=wP hr;have sV:=(bL.block _ (az (ae HR))).trans (ae HR);have BP:=(bL.block _ (az (ae HS))).trans (ae HS);have Db:=az sV;have bO:Below w1.heap.size w1 (w1.alloc (.cells #[.int .i64 f,.int .i64 b] 72)):=(ag _ _).alloc (af _) _;have xY:=hide ((bO.block _ Db).trans sV);have Gu:=hide ((bO.block _ (az BP)).trans BP);have HF:=hide (oM f b (w1.alloc (.cells #[.int .i64 f,.int .i64 b] 72)));have HG:=hide (ai w1 (.cells #[.int .i64 f,.int .i64 b] 72));have jg:=hide (((ae HB).trans (bL.mono (ae HB).size)).trans (bO.mono (aw (ae HB).size bL.size)));have jv:w.heap.size+1<(w1.alloc (.cells #[.int .i64 f,.int .i64 b] 72)).heap.size:=az (ae xY);clear hr bL sV BP bO;go_wp2_with fail;refine (ae HF).mono ?_;rintro r w3 ⟨rfl,eD⟩;have vM:=(eD.block _ jv).trans (ae xY);have xI:=(eD.block _ (by omega)).trans (ae Gu);have Hp:=(eD.block _ (by simp)).trans (ae HG);have eI:=hide ((ae jg).trans (eD.mono (ae jg).size));obtain ⟨p0,p1⟩:=ez vM;have y0:=aK vM 0;have y1:=aK vM 1;obtain ⟨s0,s1⟩:=ez xI;obtain ⟨g0,g1⟩:=ez Hp;clear eD vM xI Hp;rcases kH with ⟨he,hb,hk⟩|⟨he,hk⟩
 . subst he
   subst hb;have hd:decide ((0:Nat)≠0)=false:=rfl;rw [hd];by_cases hw:k1=2
   . have xJ:Hid (si cols e pl=(0,0)):=hide (by unfold si;rw [hk,hw];rfl)
     have me:((k1:Int) != 2)=false:=by rw [hw];rfl
     clear hk hw;go_wp2_with fail
     (try go_region)
     all_goals
      (try go_wp2_with fail)
      (try simp only [Exit.inBlock,Exit.then])
      refine ay (v:=.agg #[.int .i64 0,.int .i64 0]) (by simp [results,Tryz.results229,go_sem,p0,p1];try rfl) rfl ?_;exact ⟨by rw [ae xJ];try rfl,by repeat (first|exact ae eI|refine aJ ?_|refine below_drewN ?_ _|refine cy ?_ (by simp) _|refine df ?_ (by simp;omega) _)⟩
   . have xJ:Hid (si cols e pl=(7,pl)):=hide (by unfold si;rw [hk];simp [hw])
     have me:((k1:Int) != 2)=true:=by rw [gy];omega
     clear hk hw;go_wp2_with fail
     (try go_region)
     all_goals
      (try go_wp2_with fail)
      (try simp only [Exit.inBlock,Exit.then])
      refine ay (v:=.agg #[.int .i64 7,.int .i64 pl]) (by simp [results,Tryz.results229,go_sem,p0,p1];try rfl) rfl ?_;exact ⟨by rw [ae xJ];try rfl,by repeat (first|exact ae eI|refine aJ ?_|refine below_drewN ?_ _|refine cy ?_ (by simp) _|refine df ?_ (by simp;omega) _)⟩
 . have hd:decide (f≠0)=true:=by simpa using he
   have xJ:Hid (si cols e pl=(f,b)):=hide (by unfold si;rw [hk]);rw [hd];clear hk he;go_wp2_with fail
   (try go_region)
   all_goals
    (try go_wp2_with fail)
    (try simp only [Exit.inBlock,Exit.then])
    refine ay (v:=.agg #[.int .i64 f,.int .i64 b]) (by simp [results,Tryz.results229,go_sem,p0,p1];try rfl) rfl ?_;exact ⟨by rw [ae xJ];try rfl,by repeat (first|exact ae eI|refine aJ ?_|refine below_drewN ?_ _|refine cy ?_ (by simp) _|refine df ?_ (by simp;omega) _)⟩
def Qe (b:Option Nat):Nat×Nat:=match b with|some b=>(7,b)|none=>(0,0)
theorem Nq {w:World}{r:oz}{v cv:Value}{cols:List cU}(hv:bF w 5 v r.vals.length (lk (r.vals.map tP)))(hc:gq w cv cols)(anP:r.vals.length<=302) :
 Calls Tryz.prog 224 #[.agg #[.int .i64 r.pl,v],cv] w λe w'=>e=.returned (.agg #[.int .i64 (Qe (ft r cols)).1,.int .i64 (Qe (ft r cols)).2])/\Below w.heap.size w w':=by
 obtain ⟨va,cJ,rfl⟩:=bF.slice hv;obtain ⟨ca,kV,rfl⟩:=hc.slice;obtain ⟨W,hW⟩:∃W,W=(w.alloc (.cells #[.int .i64 r.pl,.slice va r.vals.length cJ] 169)).alloc (.cells #[.int .i64 0,.int .i64 0] 72):=⟨_,rfl⟩;have lK:Below w.heap.size w W:=by rw [hW];exact ((ag _ _).alloc (af _) _).alloc (by simp) _
 have za:W.heap.size=w.heap.size+2:=by rw [hW];simp
 have fN:W.heap[w.heap.size]?=some (.cells #[.int .i64 r.pl,.slice va r.vals.length cJ] 169 (0,0))/\W.heap[w.heap.size+1]?=some (.cells #[.int .i64 0,.int .i64 0] 72 (0,0)):=by
  rw [hW];have e2:=ai (w.alloc (.cells #[.int .i64 r.pl,.slice va r.vals.length cJ] 169)) (.cells #[.int .i64 0,.int .i64 0] 72);rw [show (w.alloc (.cells #[.int .i64 r.pl,.slice va r.vals.length cJ] 169)).heap.size=w.heap.size+1 by simp] at e2;exact ⟨(dX _ _ (by simp)).trans (ai w _),e2⟩
 have HB:=hide (λwr (hb:Below W.heap.size W wr)=>(show Below w.heap.size w wr/\wr.heap[w.heap.size]?=some (.cells #[.int .i64 r.pl,.slice va r.vals.length cJ] 169 (0,0))/\wr.heap[w.heap.size+1]?=some (.cells #[.int .i64 0,.int .i64 0] 72 (0,0))/\bF wr 5 (.slice va r.vals.length cJ) r.vals.length (lk (r.vals.map tP))/\gq wr (.slice ca cols.length kV) cols from by
  have h1:=lK.trans (hb.mono (by omega));exact ⟨h1,(hb.block _ (by omega)).trans fN.1,(hb.block _ (by omega)).trans fN.2,bF.below hv h1 (af _),hc.below h1 (af _)⟩))
 have HW:=hide hW;obtain ⟨f0,f1⟩:=bj fN.2;have z0:=lz fN.2 0;have z1:=lz fN.2 1;obtain ⟨n0,n1⟩:=bj fN.1;have HF:=hide fN.2;have oD:=hide lK;by_cases hl:r.vals.length=cols.length
 . have zS:(((r.vals.length:Nat):Int) != ((cols.length:Nat):Int))=false:=by simp [hl]
   have GU:Hid (ft r cols=tL r.vals cols):=hide (by unfold ft;rw [aA (by simpa using hl)]);have HL:=hide hl;clear hl;clear hW lK za fN hv hc;go_enter Tryz.func224,Tryz.ntmps224;go_wp2_with fail;rw [<- ae HW];clear f0 f1 z0 z1 n0 n1 zS;go_loopw [19] (λc wr=>∃i:Nat,i<=r.vals.length/\c=.int .i64 i/\Hid (tL r.vals cols=tL (r.vals.drop i) (cols.drop i))/\Hid (Below W.heap.size W wr)) (λc _=>r.vals.length - (intOf c).toNat)
   case atStart=>exact ⟨0,aN _,rfl,hide rfl,hide (ag _ _)⟩
   case round=>
    obtain ⟨i,hi,rfl,HVI,qx⟩:=hrel;obtain ⟨nG,-,TT,Ha,Bo⟩:=ae HB wr (ae qx);have HLO:=hide nG;have HFB:=hide TT;by_cases cF:i<r.vals.length
    . have jI:(i:Int)<r.vals.length:=by omega
      have amw:(i:Int)<cols.length:=by have:=ae HL;omega
      obtain ⟨v,hvi⟩:∃v,r.vals[i]?=some v:=⟨_,ah cF⟩;obtain ⟨k,LG⟩:∃k,cols[i]?=some k:=⟨_,ah (by have:=ae HL;omega)⟩;have sM:r.vals.drop i=v::r.vals.drop (i+1):=by rw [dA cF];congr 1;exact (ak.mp hvi).2
      have I5:cols.drop i=k::cols.drop (i+1):=by rw [dA (by have:=ae HL;omega)];congr 1;exact (ak.mp LG).2
      have HV2:Hid (tL r.vals cols=if (!v.null&&!decide (v.kind=(k.2:Int)))=true then some v.pl else tL (r.vals.drop (i+1)) (cols.drop (i+1))):=hide (by rw [ae HVI,sM,I5];rfl);obtain ⟨vg,vo,AW,he,-,hvg,hx⟩:=bF.at Ha (by omega)
      cases he
      have Cx:(r.vals.map tP)[i]?=some (tP v):=by rw [a7,hvi];rfl
      have x0:wr.cell? ⟨vg,vo+i*5,none⟩=some (.int .i64 v.pl):=hx (i*5) _ (dc p8 5 (λ_=>rfl) _ Cx (j:=0) (by decide));have x1:wr.cell? ⟨vg,vo+i*5+1,none⟩=some (.int .i64 (tP v).kind):=hx (i*5+1) _ (dc p8 5 (λ_=>rfl) _ Cx (j:=1) (by decide));have x2:wr.cell? ⟨vg,vo+i*5+2,none⟩=some (.bool v.null):=hx (i*5+2) _ (dc p8 5 (λ_=>rfl) _ Cx (j:=2) (by decide));have x3:wr.cell? ⟨vg,vo+i*5+3,none⟩=some (.int .i64 v.n):=hx (i*5+3) _ (dc p8 5 (λ_=>rfl) _ Cx (j:=3) (by decide));have x4:wr.cell? ⟨vg,vo+i*5+4,none⟩=some (.string v.s):=hx (i*5+4) _ (dc p8 5 (λ_=>rfl) _ Cx (j:=4) (by decide));obtain ⟨cg,co,LW,he,y0,y1⟩:=gq.get Bo LG
      cases he
      obtain ⟨f0,f1⟩:=bj TT;have z0:=lz TT 0;have z1:=lz TT 1;have yh:=az TT;have auO:cg<wr.heap.size:=bF.inside Bo (by omega) _ _ _ rfl;have qK:Hid (∀o,Below W.heap.size W (wr.alloc o)):=hide (λo=>(ae qx).alloc (ae qx).size o);clear nG TT Ha Bo hx hvi LG Cx sM I5;by_cases hn:v.null=true
      . have Ky:(tP v).kind=0:=by unfold tP;rw [hn];rfl
        rw [Ky] at x1;rw [hn] at x2;have ZX:Hid (tL r.vals cols=tL (r.vals.drop (i+1)) (cols.drop (i+1))):=hide (by rw [ae HV2,hn];rfl);clear Ky hn;go_wp2_with fail;go_quiet (fail);go_wp2_with fail;exact ⟨⟨i+1,by omega,by go_num,ZX,hide (below_drewN (ae qK _) _)⟩,by simp [intOf];omega⟩
      . have NW:v.null=false:=by simpa using hn
        have Ky:(tP v).kind=v.kind:=by unfold tP;rw [NW];rfl
        rw [Ky] at x1;rw [NW] at x2;by_cases hk:v.kind=(k.2:Int)
        . have QS:(v.kind != (k.2:Int))=false:=by simp [hk]
          have ZX:Hid (tL r.vals cols=tL (r.vals.drop (i+1)) (cols.drop (i+1))):=hide (by rw [ae HV2,NW,bu hk];rfl);clear Ky hn NW hk;go_wp2_with fail;go_quiet (fail);go_wp2_with fail;exact ⟨⟨i+1,by omega,by go_num,ZX,hide (below_drewN (ae qK _) _)⟩,by simp [intOf];omega⟩
        . have QS:(v.kind != (k.2:Int))=true:=by simp [hk]
          have ZX:Hid (ft r cols=some v.pl):=hide (by rw [ae GU,ae HV2,NW,aI hk];rfl);clear Ky hn NW hk;go_wp2_with fail;go_quiet (fail);go_wp2_with fail;obtain ⟨⟨d0,d1⟩,d2⟩:=eX (w1:=(wr.alloc (.cells #[.int .i64 v.pl,.int .i64 v.kind,.bool false,.int .i64 v.n,.string v.s] 234)).drewN nq) (below_drewN ((ae HLO).alloc (ae HLO).size _) _) (cq _) ((dX wr _ yh).trans (ae HFB)) (.int .i64 7) (.int .i64 v.pl);refine ay (v:=.agg #[.int .i64 7,.int .i64 v.pl]) (by simp [results,Tryz.results224,go_sem,d0,d1];try rfl) rfl ?_;exact ⟨by rw [ae ZX];rfl,d2⟩
    . obtain rfl:i=r.vals.length:=by omega
      have ZX:Hid (ft r cols=none):=hide (by rw [ae GU,ae HVI,iO];cases cols.drop r.vals.length<;>rfl);obtain ⟨f0,f1⟩:=bj TT;have z0:=lz TT 0;have z1:=lz TT 1;clear nG TT Ha Bo;go_wp2_with fail;obtain ⟨⟨d0,d1⟩,d2⟩:=eX (ae HLO) (cq _) (ae HFB) (.int .i64 0) (.int .i64 0);refine ay (v:=.agg #[.int .i64 0,.int .i64 0]) (by simp [results,Tryz.results224,go_sem,d0,d1];try rfl) rfl ?_;exact ⟨by rw [ae ZX];rfl,d2⟩
 . have zS:¬((r.vals.length:Nat):Int)=cols.length:=by omega
   have HR:Hid (ft r cols=some r.pl):=hide (by unfold ft;rw [aH hl]);clear hW lK za fN hv hc;go_enter Tryz.func224,Tryz.ntmps224;go_wp2_with fail;refine ay (v:=.agg #[.int .i64 7,.int .i64 r.pl]) (by simp [results,Tryz.results224,go_sem];try rfl) rfl ?_;exact ⟨by rw [ae HR];rfl,((ag _ _).alloc (af _) _).alloc (by simp) _⟩
end
end Go.Proofs.YteniahoehoncjaaGreatDoor
