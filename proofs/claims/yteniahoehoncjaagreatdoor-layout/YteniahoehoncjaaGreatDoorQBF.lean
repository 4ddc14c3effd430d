import Derived.Test.YteniahoehoncjaaGreatDoorQBE
set_option maxHeartbeats 99999999
set_option maxRecDepth 100000
namespace Go.Proofs.YteniahoehoncjaaGreatDoor
open Go.RowKit
section
open Go.Maps
theorem D5 {w w1:World}{r:Nat}{a b:Value}{t:TypeId}(hl:Below w.heap.size w w1)(hr:w.heap.size<=r)(h:w1.heap[r]?=some (.cells #[a,b] t (0,0)))(x y:Value)(o:Obj):((((w1.setCell ⟨r,0,none⟩ x).setCell ⟨r,1,none⟩ y).alloc o).drew.cell? ⟨r,0,none⟩=some x/\(((w1.setCell ⟨r,0,none⟩ x).setCell ⟨r,1,none⟩ y).alloc o).drew.cell? ⟨r,1,none⟩=some y)/\Below w.heap.size w (((w1.setCell ⟨r,0,none⟩ x).setCell ⟨r,1,none⟩ y).alloc o).drew:=by
 refine ⟨ah0 h o,aJ (((hl.setCell hr _).setCell hr _).alloc ?_ _)⟩;simpa [World.setCell] using hl.size
theorem eX {w w1:World}{r:Nat}{a b:Value}{t:TypeId}(hl:Below w.heap.size w w1)(hr:w.heap.size<=r)(h:w1.heap[r]?=some (.cells #[a,b] t (0,0)))(x y:Value):(((w1.setCell ⟨r,0,none⟩ x).setCell ⟨r,1,none⟩ y).cell? ⟨r,0,none⟩=some x/\((w1.setCell ⟨r,0,none⟩ x).setCell ⟨r,1,none⟩ y).cell? ⟨r,1,none⟩=some y)/\Below w.heap.size w ((w1.setCell ⟨r,0,none⟩ x).setCell ⟨r,1,none⟩ y):=
 ⟨bj (t:=t) (aO _ _ 1 _ _ _ (aO _ _ 0 _ _ _ h)),(hl.setCell hr _).setCell hr _⟩
theorem P7 {o:rO}{w:World}{p mt mg:Nat}{X:Nat->Prop}{tl:List (Lit×fF)}{gl:List (Lit×ng)}(h:cx o w p mt mg X tl gl){user:ByteArray}(hu:user.size<=maxLen){pl:Nat}{t:Nm}(ht:mN t){v:Value}{ss:List gV}(hv:bF w 1 v ss.length (ss.map λs:gV=>kZ s.pl))(hk:oL w)(hp:rW w) :
 Calls Tryz.prog 42 #[.agg #[.int .i64 pl,.string t.1,.int .i64 t.2,v],.pointer (some ⟨p,0,none⟩),.string user] w λr w'=>r=.returned (.tuple #[.string ⟨(kY o.bud (cw tl gl) user pl t ss).1.toArray⟩,.agg #[.int .i64 (kY o.bud (cw tl gl) user pl t ss).2.1,.int .i64 (kY o.bud (cw tl gl) user pl t ss).2.2]])/\Below w.heap.size w w':=by
 obtain ⟨va,cJ,rfl⟩:=bF.slice hv;obtain ⟨W0,Wh⟩:∃W0,W0=(w.alloc (.cells #[.int .i64 pl,.string t.1,.int .i64 t.2,.slice va ss.length cJ] 109)).alloc (.cells #[.int .i64 0,.int .i64 0] 72):=⟨_,rfl⟩;have kX:Below w.heap.size w W0:=by rw [Wh];exact ((ag _ _).alloc (af _) _).alloc (by simp) _
 have jS:W0.heap.size=w.heap.size+2:=by rw [Wh];simp
 have Hj:W0.heap[w.heap.size]?=some (.cells #[.int .i64 pl,.string t.1,.int .i64 t.2,.slice va ss.length cJ] 109 (0,0))/\W0.heap[w.heap.size+1]?=some (.cells #[.int .i64 0,.int .i64 0] 72 (0,0)):=by
  rw [Wh];have e2:=ai (w.alloc (.cells #[.int .i64 pl,.string t.1,.int .i64 t.2,.slice va ss.length cJ] 109)) (.cells #[.int .i64 0,.int .i64 0] 72);rw [show (w.alloc (.cells #[.int .i64 pl,.string t.1,.int .i64 t.2,.slice va ss.length cJ] 109)).heap.size=w.heap.size+1 by simp] at e2;exact ⟨(dX _ _ (by simp)).trans (ai w _),e2⟩
 have HS:=hide (λwr (hb:Below W0.heap.size W0 wr)=>(show cx o wr p mt mg X tl gl/\bF wr 1 (.slice va ss.length cJ) ss.length (ss.map λs:gV=>kZ s.pl)/\oL wr/\rW wr/\Below w.heap.size w wr/\wr.heap[w.heap.size]?=some (.cells #[.int .i64 pl,.string t.1,.int .i64 t.2,.slice va ss.length cJ] 109 (0,0))/\wr.heap[w.heap.size+1]?=some (.cells #[.int .i64 0,.int .i64 0] 72 (0,0)) from by
  have bL:=kX.trans (hb.mono (by omega));exact ⟨h.below bL,bF.below hv bL (af _),hk.below bL (af _),hp.below bL (af _),bL,(hb.block _ (by omega)).trans Hj.1,(hb.block _ (by omega)).trans Hj.2⟩))
 have HVO:=hide (Py (h.below kX) hu (table:=t.1) (by have:=ht.1;unfold maxLen;omega));have HW0:=hide Wh;have QP:=az h.dV;clear h hv hk hp kX Hj Wh;go_enter Tryz.func42,Tryz.ntmps42;go_wp2_with fail;rw [<- ae HW0];refine (ae HVO).mono ?_;rintro e w1 ⟨⟨tv,Gw,wv,b,rfl,⟨⟨ta,rfl⟩,⟨sa,sn,mb,rfl⟩,hwv⟩,kH⟩,bL⟩;obtain ⟨BP,pj,nN,QR,aco,hq1,Ju⟩:=ae HS w1 bL;have anZ:∀(a:Addr) (m:Go.Mode) (w:World),(store a wv m).run Tryz.prog w=stored Tryz.prog w a wv m:=by
  rcases hwv with rfl|⟨k,c,rfl⟩
  . exact lU
  . exact k9 k c
 obtain ⟨q0,q1,q2,q3⟩:=pW hq1;obtain ⟨f0,f1⟩:=bj Ju;have z0:=lz Ju 0;have z1:=lz Ju 1;have eI:=hide bL;have HLW:=hide aco;have HF1:=hide Ju;have BA:=az hq1;have yh:=az Ju;clear BP pj nN QR aco hq1 Ju bL;rcases kH with ⟨rfl,CV⟩|⟨rfl,tc,sh,F,a,lo,hl,jW,hsr,N6,nQ,hF,h0,h5,E0,RI⟩
 . have HA:Hid (kY o.bud (cw tl gl) user pl t ss=([],5,t.2)):=hide (by unfold kY;rw [CV])
   clear CV;rcases hwv with rfl|⟨k,c,rfl⟩
   . go_wp2_with fail
     go_region
     all_goals
      (try go_wp2_with fail)
      obtain ⟨⟨e0,e1⟩,e2⟩:=D5 (ae HLW) (cq _) (ae HF1) (.int .i64 5) (.int .i64 t.2) (.cells #[.pointer ta,.slice sa sn mb,.nilFunc] 141);refine ay (v:=.tuple #[.string ⟨#[]⟩,.agg #[.int .i64 5,.int .i64 t.2]]) (by simp [results,Tryz.results42,go_sem,e0,e1];try rfl) rfl ?_;exact ⟨by rw [ae HA];rfl,e2⟩
   . go_wp2_with fail
     go_region
     all_goals
      (try go_wp2_with fail)
      obtain ⟨⟨e0,e1⟩,e2⟩:=D5 (ae HLW) (cq _) (ae HF1) (.int .i64 5) (.int .i64 t.2) (.cells #[.pointer ta,.slice sa sn mb,.func (.func k) #[] c] 141);refine ay (v:=.tuple #[.string ⟨#[]⟩,.agg #[.int .i64 5,.int .i64 t.2]]) (by simp [results,Tryz.results42,go_sem,e0,e1];try rfl) rfl ?_;exact ⟨by rw [ae HA];rfl,e2⟩
 . unfold fF.val at jW
   cases jW
   have aeM:=N6;obtain ⟨fk,fc,Ts,-⟩:=aeM;subst Ts;clear hwv
   cases ss with
   |cons s0 sr=>
     have HA:Hid (kY o.bud (cw tl gl) user pl t (s0::sr)=([],2,s0.pl)):=hide (by unfold kY;rw [RI]);obtain ⟨-,pj,-⟩:=ae HS w1 (ae eI);obtain ⟨sg,so,aqZ,he,-,auf,hx⟩:=bF.at pj (by simp)
     cases he
     have hsl:((0:Int)<((s0::sr).length:Nat)):=by simp
     have x0:w1.cell? ⟨sg,so+0,none⟩=some (.int .i64 s0.pl):=hx 0 _ rfl;rw [iY] at x0;clear RI hl hsr N6 nQ hF E0 pj hx;go_wp2_with fail;go_region
     all_goals
      (try go_wp2_with fail)
      obtain ⟨⟨e0,e1⟩,e2⟩:=D5 (ae HLW) (cq _) (ae HF1) (.int .i64 2) (.int .i64 s0.pl) (.cells #[.pointer (some ⟨tc.q,0,none⟩),.slice sa sn mb,.func (.func fk) #[] fc] 141);refine ay (v:=.tuple #[.string ⟨#[]⟩,.agg #[.int .i64 2,.int .i64 s0.pl]]) (by simp [results,Tryz.results42,go_sem,e0,e1];try rfl) rfl ?_;exact ⟨by rw [ae HA];rfl,e2⟩
   |nil=>
     obtain ⟨W1,qH⟩:∃W1,W1=w1.alloc (.cells #[.pointer (some ⟨tc.q,0,none⟩),.slice sa sn mb,.func (.func fk) #[] fc] 141):=⟨_,rfl⟩;have lK:Below w1.heap.size w1 W1:=by rw [qH];exact (ag _ _).alloc (af _) _
     have hBW:=(ae eI).trans (lK.mono (ae eI).size);obtain ⟨BP,-,-,-,-,hqW,hfW⟩:=ae HS W1 hBW;have aaL:=BP.tab _ (kA hl);have Gs:=hide (λwr (hb:Below W1.heap.size W1 wr)=>(show Calls Tryz.prog 63 #[.agg #[.pointer (some ⟨tc.q,0,none⟩),.slice sa sn mb,.func (.func fk) #[] fc],.agg (SC o).toArray] wr (λe w'=>∃kv bv,e=.returned (.agg #[kv,bv,.int .i64 (fR F sh tc.Cs.flatten).length])/\gq w' kv (sh.map λs=>tc.cols.getD s default)/\gQ (λb=>b<wr.heap.size) kv/\fC (λb=>b<wr.heap.size) w' bv (bX sh.length (fR F sh tc.Cs.flatten))/\Below wr.heap.size wr w') from by
      have bO:=lK.trans (hb.mono lK.size);have BV:=(BP.below hb).tab _ (kA hl);exact Kf (a:=a) (lo:=lo) (sh:=sh) (F:=F) (ok:=nz tc.cols) o BV.dV BV.Hb (bF.jt BV.own) BV.qE BV.chk BV.fit BV.few BV.c0 BV.BU.1 (bF.below hsr bO (af _)) E0 h0 h5 N6 (nQ.below bO) hF (λrow hr=>aex (BV.fit row hr))))
     have HCF:=hide (FG aaL.BU h5 E0);have SN:=hide (FH aaL.fit E0 F);have yX:=aw (BG F sh tc.Cs.flatten) aaL.few;have HA:Hid (kY o.bud (cw tl gl) user pl t []=if o.bud<(fR F sh tc.Cs.flatten).length then ([],10,pl) else (vx (sh.map λs=>tc.cols.getD s default) (fR F sh tc.Cs.flatten),0,0)):=hide (by unfold kY;rw [RI];rfl);obtain ⟨S,hS⟩:∃S,S=fR F sh tc.Cs.flatten:=⟨_,rfl⟩;obtain ⟨C,hC⟩:∃C,C=sh.map λs=>tc.cols.getD s default:=⟨_,rfl⟩;have hCl:C.length=sh.length:=by rw [hC,aW]
     rw [<- hS] at Gs SN HA yX;rw [<- hC] at Gs HCF SN HA;rw [<- hCl] at Gs;unfold SC at Gs;clear hCl;obtain ⟨y0,y1,y2,y3,y4,y5,y6,y7⟩:=dG BP.dV;have hvW:W1.heap[w1.heap.size]?=some (.cells #[.pointer (some ⟨tc.q,0,none⟩),.slice sa sn mb,.func (.func fk) #[] fc] 141 (0,0)):=by rw [qH];exact ai w1 _
     obtain ⟨u0,u1,u2⟩:=aR hvW;have hpW:=az BP.dV;have an2:=az hqW;have an3:=az hfW;have an4:=az hvW;have HN2:=hide (λw2 (hb:Below W1.heap.size W1 w2)=>(show ((w2.cell? ⟨p,0,none⟩=some (.int .i64 o.seg)/\w2.cell? ⟨p,1,none⟩=some (.int .i64 o.pk)/\w2.cell? ⟨p,2,none⟩=some (.int .i64 o.wd)/\w2.cell? ⟨p,3,none⟩=some (.bool o.prune)/\w2.cell? ⟨p,4,none⟩=some (.bool o.push)/\w2.cell? ⟨p,5,none⟩=some (.int .i64 o.bud)/\w2.cell? ⟨p,6,none⟩=some (.map (some mt))/\w2.cell? ⟨p,7,none⟩=some (.map (some mg))))/\w2.cell? ⟨w.heap.size,0,none⟩=some (.int .i64 pl)/\(w2.cell? ⟨w.heap.size+1,0,none⟩=some (.int .i64 0)/\w2.cell? ⟨w.heap.size+1,1,none⟩=some (.int .i64 0))/\(∀i,w2.frozen? ⟨w.heap.size+1,i,none⟩=false)/\(p<w2.heap.size/\w.heap.size+1<w2.heap.size/\w.heap.size<w2.heap.size)/\w2.heap[w.heap.size+1]?=some (.cells #[.int .i64 0,.int .i64 0] 72 (0,0))/\oL w2/\rW w2/\Below w.heap.size w w2 from by
      obtain ⟨k1,-,k3,k4,k5,k6,k7⟩:=ae HS w2 (hBW.trans (hb.mono hBW.size));exact ⟨dG k1.dV,(pW k6).1,bj k7,λi=>lz k7 i,⟨az k1.dV,az k7,az k6⟩,k7,k3,k4,k5⟩))
     have xX:=hide qH;clear RI hl hsr N6 nQ hF E0 BP aaL lK hS hC hBW hqW hfW hvW qH;go_wp2_with fail;rw [<- ae xX];have U4:(W1.alloc (.cells #[.slice none 0 0,.slice none 0 0,.int .i64 0] 150)).drew.heap.size=W1.heap.size+1:=by show (W1.heap.push _).size=_;rw [dq]
     have qK:=hide (λw2 (hb:Below (W1.alloc (.cells #[.slice none 0 0,.slice none 0 0,.int .i64 0] 150)).drew.heap.size (W1.alloc (.cells #[.slice none 0 0,.slice none 0 0,.int .i64 0] 150)).drew w2)=>(show w2.heap[W1.heap.size]?=some (.cells #[.slice none 0 0,.slice none 0 0,.int .i64 0] 150 (0,0))/\Below W1.heap.size W1 w2 from
      ⟨(hb.block W1.heap.size (by omega)).trans (ai W1 (.cells #[.slice none 0 0,.slice none 0 0,.int .i64 0] 150)),(aJ ((ag W1.heap.size W1).alloc (af _) _)).trans (hb.mono (by omega))⟩))
     have HZ9:=hide U4;clear U4;have J5:(((S.length:Nat):Int)>o.bud/\o.bud<S.length)\/(¬((S.length:Nat):Int)>o.bud/\¬o.bud<S.length):=by omega
     go_region_with (go_at_call 63;refine (ae Gs _ (by first|exact aJ (ag _ _)|exact aJ ((ag _ _).alloc (af _) _))).mono ?_;rintro e w2 ⟨kv,bv,rfl,YI,yG,hbv,bO⟩;obtain ⟨ka,iG,rfl⟩:=bF.slice YI;obtain ⟨ba,rj,he⟩:=iC.slice hbv.batch;rw [bC] at he;subst he;(first|(have KT:=(ae qK w2 bO).1;obtain ⟨a0,a1,a2⟩:=aR KT;have ga:=λi=>lz KT i;have HX9:=hide KT;have HKX:=hide (show gQ (λb=>b<W1.heap.size+1) (.slice ka C.length iG)/\fC (λb=>b<W1.heap.size+1) w2 (.slice ba C.length rj) (bX C.length S) from by rw [<- ae HZ9];exact ⟨yG,hbv⟩);clear KT)|skip);have jg:Hid (Below W1.heap.size W1 w2):=hide (by first|exact (aJ (ag _ _)).trans bO|exact (ae qK w2 bO).2);have HKV:=hide YI;have HBV:=hide hbv.batch;clear YI yG hbv bO)
     all_goals
      first
      | (have H9:Hid ((w2.alloc (.cells #[.slice ka C.length iG,.slice ba C.length rj,.int .i64 S.length] 150)).heap[w2.heap.size]?=some (.cells #[.slice ka C.length iG,.slice ba C.length rj,.int .i64 S.length] 150 (0,0))/\gq (w2.alloc (.cells #[.slice ka C.length iG,.slice ba C.length rj,.int .i64 S.length] 150)) (.slice ka C.length iG) C/\iC (w2.alloc (.cells #[.slice ka C.length iG,.slice ba C.length rj,.int .i64 S.length] 150)) (.slice ba C.length rj) (bX C.length S)):=hide ⟨ai w2 _,(ae HKV).below ((ag _ _).alloc (af _) _) (af _),(ae HBV).below ((ag _ _).alloc (af _) _) (af _)⟩
         have HL9:Hid (Below W1.heap.size W1 (w2.alloc (.cells #[.slice ka C.length iG,.slice ba C.length rj,.int .i64 S.length] 150))):=hide ((ae jg).alloc (ae jg).size _);obtain ⟨W9,e9⟩:∃W9,W9=w2.alloc (.cells #[.slice ka C.length iG,.slice ba C.length rj,.int .i64 S.length] 150):=⟨_,rfl⟩;obtain ⟨b9,Lb⟩:∃b9,b9=w2.heap.size:=⟨_,rfl⟩;rw [<- e9] at H9 HL9 ⊢;rw [<- Lb] at H9 ⊢;clear e9 Lb jg HKV HBV)
      | (have H9:Hid ((((w2.setCell ⟨W1.heap.size,0,none⟩ (.slice ka C.length iG)).setCell ⟨W1.heap.size,1,none⟩ (.slice ba C.length rj)).setCell ⟨W1.heap.size,2,none⟩ (.int .i64 S.length)).heap[W1.heap.size]?=some (.cells #[.slice ka C.length iG,.slice ba C.length rj,.int .i64 S.length] 150 (0,0))/\gq (((w2.setCell ⟨W1.heap.size,0,none⟩ (.slice ka C.length iG)).setCell ⟨W1.heap.size,1,none⟩ (.slice ba C.length rj)).setCell ⟨W1.heap.size,2,none⟩ (.int .i64 S.length)) (.slice ka C.length iG) C/\iC (((w2.setCell ⟨W1.heap.size,0,none⟩ (.slice ka C.length iG)).setCell ⟨W1.heap.size,1,none⟩ (.slice ba C.length rj)).setCell ⟨W1.heap.size,2,none⟩ (.int .i64 S.length)) (.slice ba C.length rj) (bX C.length S)):=hide (by
          refine ⟨BH (ae HX9),bF.moves (M:=λb=>b=W1.heap.size) (ae HKV) ((ae HKX).1.mono (λb hb=>by omega)) (by simp [World.setCell]) (λb _ hb=>uE hb),?_⟩;exact (((ae HKX).2.sub (M':=λb=>b=W1.heap.size) (λb hb=>by omega)).kept (by simp [World.setCell]) (λb _ hb=>uE hb)).batch)
         have HL9:Hid (Below W1.heap.size W1 (((w2.setCell ⟨W1.heap.size,0,none⟩ (.slice ka C.length iG)).setCell ⟨W1.heap.size,1,none⟩ (.slice ba C.length rj)).setCell ⟨W1.heap.size,2,none⟩ (.int .i64 S.length))):=hide ((((ae jg).setCell (af _) _).setCell (af _) _).setCell (af _) _);obtain ⟨W9,e9⟩:∃W9,W9=((w2.setCell ⟨W1.heap.size,0,none⟩ (.slice ka C.length iG)).setCell ⟨W1.heap.size,1,none⟩ (.slice ba C.length rj)).setCell ⟨W1.heap.size,2,none⟩ (.int .i64 S.length):=⟨_,rfl⟩;obtain ⟨b9,Lb⟩:∃b9,b9=W1.heap.size:=⟨_,rfl⟩;rw [<- e9] at H9 HL9 ⊢;rw [<- Lb] at H9 ⊢;clear e9 Lb jg HKV HBV HX9 HKX a0 a1 a2 ga)
     all_goals
      clear u0 u1 u2 y0 y1 y2 y3 y4 y5 y6 y7 Gs qK HS eI anZ f0 f1 z0 z1 q0 q1 q2 q3 an4 an2 an3 hpW;obtain ⟨Ia,h9c,h9v⟩:=ae H9;have N9:=ae HL9;obtain ⟨⟨-,-,-,-,-,p5,-,-⟩,n0,⟨f0',f1'⟩,ff,⟨hp2,xN,Cw⟩,TT,aiC,Yv,nG⟩:=ae HN2 W9 N9;obtain ⟨o0,o1,o2⟩:=aR Ia;have HFB:=hide TT;have HLO:=hide nG;have HTX:=hide (λk=>Wg (w:=W9.drewN k) (ae HCF) (ae SN) (by omega) (h9c.below (below_drewN (ag _ _) k) (af _)) (h9v.below (below_drewN (ag _ _) k) (af _)) (aiC.below (below_drewN (ag _ _) k) (af _)) (Yv.below (below_drewN (ag _ _) k) (af _)));clear Ia N9 h9c h9v TT aiC Yv nG HN2 H9 HL9
      (try go_wp2_with fail)
      rcases J5 with ⟨C5,qF⟩|⟨C5,qF⟩
      . rw [aH qF] at HA
        clear HTX;go_quiet (fail);go_wp2_with fail;go_region
        all_goals
         (try go_wp2_with fail)
         obtain ⟨⟨e0,e1⟩,e2⟩:=eX (w1:=W9.drewN (nq+1)) (below_drewN (ae HLO) _) (cq _) (ae HFB) (.int .i64 10) (.int .i64 pl);refine ay (v:=.tuple #[.string ⟨#[]⟩,.agg #[.int .i64 10,.int .i64 pl]]) (by simp [results,Tryz.results42,go_sem,e0,e1];try rfl) rfl ?_;exact ⟨by rw [ae HA];rfl,e2⟩
      . rw [aA qF] at HA
        go_quiet (fail);go_wp2_with fail;refine (ae HTX nq).mono ?_;rintro e w4 ⟨rfl,me⟩;have hf4:=(me.block _ (show w.heap.size+1<(W9.drewN nq).heap.size from xN)).trans (ae HFB);obtain ⟨x0,x1⟩:=bj hf4;have z0:=lz hf4 0;have z1:=lz hf4 1;have HF4:=hide hf4;have HL4:=hide ((below_drewN (ae HLO) nq).trans (me.mono (eH Cw)));clear me hf4;go_wp2_with fail;obtain ⟨⟨e0,e1⟩,e2⟩:=eX (ae HL4) (cq _) (ae HF4) (.int .i64 0) (.int .i64 0);refine ay (v:=.tuple #[.string ⟨(vx C S).toArray⟩,.agg #[.int .i64 0,.int .i64 0]]) (by simp [results,Tryz.results42,go_sem,e0,e1];try rfl) rfl ?_;exact ⟨by rw [ae HA];rfl,e2⟩
end
end Go.Proofs.YteniahoehoncjaaGreatDoor
