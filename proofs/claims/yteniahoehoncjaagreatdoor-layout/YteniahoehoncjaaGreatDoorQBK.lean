import Derived.Deep.DeepCutAuto
import Derived.Test.YteniahoehoncjaaGreatDoorQBG
set_option maxHeartbeats 99999999
set_option maxRecDepth 100000
namespace Go.Proofs.YteniahoehoncjaaGreatDoor
open Go.RowKit
section
open Go.Maps
theorem XI {o:rO}{w:World}{p mt mg:Nat}{X:Nat->Prop}{tl:List (Lit×fF)}{gl:List (Lit×ng)}(h:cx o w p mt mg X tl gl){t:Nm}(ht:mN t){rows:List oz}(ZA:rows≠[])(hrf:∀r∈rows,xK r)(Ey:rows.length<=302){v:Value}{vr:List (Nat×Value)}(hv:bF w 2 v vr.length (tR vr))(hr:Each (λa r=>a.1=r.pl/\bF w 5 a.2 r.vals.length (lk (r.vals.map tP))) vr rows) :
 Calls Tryz.prog 225 #[.agg #[.string t.1,.int .i64 t.2,v],.pointer (some ⟨p,0,none⟩)] w λr w'=>jR o w w' p mt mg X tl (yB (cw tl gl) t rows) r:=by
 have DY:t.1.size<=maxLen:=by have:=ht.1;unfold maxLen;omega
 have G7:vr.length=rows.length:=hr.len;obtain ⟨va,cJ,rfl⟩:=bF.slice hv;obtain ⟨W,hW⟩:∃W,W=(w.alloc (.cells #[.string t.1,.int .i64 t.2,.slice va vr.length cJ] 174)).alloc (.cells #[.int .i64 0,.int .i64 0] 72):=⟨_,rfl⟩;have lK:Below w.heap.size w W:=by rw [hW];exact ((ag _ _).alloc (af _) _).alloc (by simp) _
 have za:W.heap.size=w.heap.size+2:=by rw [hW];simp
 have fN:W.heap[w.heap.size]?=some (.cells #[.string t.1,.int .i64 t.2,.slice va vr.length cJ] 174 (0,0))/\W.heap[w.heap.size+1]?=some (.cells #[.int .i64 0,.int .i64 0] 72 (0,0)):=by
  rw [hW];have e2:=ai (w.alloc (.cells #[.string t.1,.int .i64 t.2,.slice va vr.length cJ] 174)) (.cells #[.int .i64 0,.int .i64 0] 72);rw [show (w.alloc (.cells #[.string t.1,.int .i64 t.2,.slice va vr.length cJ] 174)).heap.size=w.heap.size+1 by simp] at e2;exact ⟨(dX _ _ (by simp)).trans (ai w _),e2⟩
 have HB:=hide (λwr (hb:Below W.heap.size W wr)=>(show cx o wr p mt mg X tl gl/\Below w.heap.size w wr/\wr.heap[w.heap.size]?=some (.cells #[.string t.1,.int .i64 t.2,.slice va vr.length cJ] 174 (0,0))/\wr.heap[w.heap.size+1]?=some (.cells #[.int .i64 0,.int .i64 0] 72 (0,0))/\bF wr 2 (.slice va vr.length cJ) vr.length (tR vr)/\Each (λa r=>a.1=r.pl/\bF wr 5 a.2 r.vals.length (lk (r.vals.map tP))) vr rows from by
  have h1:=lK.trans (hb.mono (by omega));exact ⟨h.below h1,h1,(hb.block _ (by omega)).trans fN.1,(hb.block _ (by omega)).trans fN.2,bF.below hv h1 (af _),hr.mono (λa _ b hx=>⟨hx.1,bF.below hx.2 h1 (af _)⟩)⟩))
 have HW:=hide hW;obtain ⟨hS,-,bL,bO,-⟩:=ae HB W (ag _ _);obtain ⟨c0,c1,c2⟩:=aR bL;obtain ⟨f0,f1⟩:=bj bO;have z0:=lz bO 0;have z1:=lz bO 1;obtain ⟨e0,e1,e2,e3,e4,e5,e6,e7⟩:=dG hS.dV;have hpW:=az hS.dV;have Db:=az bL;have Kc:=az bO;have xG:=hS.find DY;have o7:=(hS.below (aJ (ag _ _))).find DY;have HH:=hide h;have jg:=hide bO;have oD:=hide lK;have sU:=hide za;have YV:=hide G7;have ark:vr.length<=302:=by rw [G7];exact Ey
 cases hg:eA tl (tk t.1) with
 |none=>
   simp only [hg] at xG o7;have zA:Hid (yB (cw tl gl) t rows=((5,t.2),cw tl gl)):=hide (by unfold yB cw;simp only;rw [fY,hg];rfl);clear h hW lK fN hS bL bO hg za hv hr G7;go_enter Tryz.func225,Tryz.ntmps225;go_wp2_with fail;rw [<- ae HW];go_region
   all_goals
    (try go_wp2_with fail)
    obtain ⟨⟨d0,d1⟩,d2⟩:=eX (w1:=W) (ae oD) (cq _) (ae jg) (.int .i64 5) (.int .i64 t.2);refine ay (v:=.agg #[.int .i64 5,.int .i64 t.2]) (by simp [results,Tryz.results225,go_sem,d0,d1];try rfl) rfl ?_;rw [ae zA];exact (ae HH).same (aJ d2) (5,t.2) rfl
 |some tc=>
   simp only [hg] at xG o7;unfold fF.val at xG o7;have TA:(tk t.1,tc)∈tl:=kA hg;have Pq:=hS.tab _ TA;obtain ⟨ca,kV,N2⟩:=Pq.Hb.slice;have aeP:=hide N2;obtain ⟨sa,mb,hsv,-,-⟩:=di Pq.own;have aow:=hide hsv;obtain ⟨N,hN⟩:∃N,N=tc.Cs.flatten.length:=⟨_,rfl⟩;have HT:=hide (λwr (hb:Below W.heap.size W wr)=>(show wr.heap[tc.q]?=some (.cells #[.slice ca tc.cols.length kV,.slice sa tc.Cs.length mb,.int .i64 (N:Nat)] 194 (0,0))/\gq wr (.slice ca tc.cols.length kV) tc.cols from by
    have h1:=(ae HB wr hb).1.tab _ TA;rw [<- ae aeP,<- ae aow,hN];exact ⟨h1.dV,h1.Hb⟩))
   have h5:tc.cols.length<=5:=Pq.BU.1;have h64:N<=64:=by rw [hN];exact Pq.few
   have HTF:=hide (show jh tc.cols tc.Cs.flatten/\lF o.seg tc.Cs/\(∀c∈tc.cols,c.2<=2)/\0<tc.cols.length from ⟨Pq.fit,Pq.chk,λc hc=>(Pq.BU.2 c hc).2,Pq.c0⟩);have HTM:=hide TA;have Oa:Hid (yB (cw tl gl) t rows=match rows.findSome? (λr=>ft r tc.cols) with|some b=>((7,b),cw tl gl)|none=>if 64<N+rows.length then ((8,0),cw tl gl) else ((0,0),⟨uR (eZ fF.told tl) (tk t.1) (tc.cols,tc.Cs.flatten++rows.map FE),eZ ng.told gl⟩)):=hide (by
    unfold yB cw;simp only;rw [fY,hg,hN];rfl)
   have HN:=hide hN;obtain ⟨Gt,Bo⟩:=ae HT W (ag _ _);obtain ⟨q0,q1,q2⟩:=aR Gt;have BA:=az Gt;clear h hW lK fN hS bL bO hg za hv hr Pq N2 hsv Gt Bo TA G7 hN;go_enter Tryz.func225,Tryz.ntmps225;go_wp2_with fail;rw [<- ae HW];go_region
   all_goals
    (try go_wp2_with fail)
    have HD0:Hid (Below W.heap.size W W.drew):=hide (aJ (ag _ _));clear xG o7 c0 c1 c2 f0 f1 z0 z1 e0 e1 e2 e3 e4 e5 e6 e7 q0 q1 q2;go_loopw [26] (λc wr=>∃i:Nat,i<=vr.length/\c=.int .i64 i/\Hid (rows.findSome? (λr=>ft r tc.cols)=(rows.drop i).findSome? (λr=>ft r tc.cols))/\Hid (Below W.heap.size W wr)) (λc _=>vr.length - (intOf c).toNat)
    case atStart=>exact ⟨0,aN _,rfl,hide rfl,HD0⟩
    case round=>
     obtain ⟨i,hi,rfl,HFS,qx⟩:=hrel;obtain ⟨XA,nG,bL,bO,Ha,hrr⟩:=ae HB wr (ae qx);obtain ⟨Gt,Bo⟩:=ae HT wr (ae qx);by_cases cF:i<vr.length
     . have jI:(i:Int)<vr.length:=by omega
       obtain ⟨x,Oc⟩:∃x,rows[i]?=some x:=⟨_,ah (by rw [<- ae YV];exact cF)⟩;obtain ⟨a,J9,Xo,hav⟩:=Each.get hrr Oc;have G9:=hide (hrf x (aG Oc));have XJ:Hid (rows.findSome? (λr=>ft r tc.cols)=match ft x tc.cols with|some b=>some b|none=>(rows.drop (i+1)).findSome? (λr=>ft r tc.cols)):=hide (by rw [ae HFS,dA (by rw [<- ae YV];exact cF),(ak.mp Oc).2,List.findSome?_cons];cases ft x tc.cols<;>rfl);obtain ⟨vg,vo,AW,he,-,hvg,hx⟩:=bF.at Ha (by omega)
       cases he
       obtain ⟨ra,Ad,QZ⟩:=bF.slice hav;have x0:wr.cell? ⟨vg,vo+i*2,none⟩=some (.int .i64 x.pl):=by
        have:=hx (i*2) _ (dc Dt 2 (λ_=>rfl) vr J9 (j:=0) (by decide));rw [<- Xo];exact this
       have x1:wr.cell? ⟨vg,vo+i*2+1,none⟩=some (.slice ra x.vals.length Ad):=by
        have:=hx (i*2+1) _ (dc Dt 2 (λ_=>rfl) vr J9 (j:=1) (by decide));rw [<- QZ];exact this
       rw [QZ] at hav;obtain ⟨W1,qH⟩:∃W1,W1=wr.alloc (.cells #[.int .i64 x.pl,.slice ra x.vals.length Ad] 169):=⟨_,rfl⟩;have ph:Below wr.heap.size wr W1:=by rw [qH];exact (ag _ _).alloc (af _) _
       have nN:W1.heap[wr.heap.size]?=some (.cells #[.int .i64 x.pl,.slice ra x.vals.length Ad] 169 (0,0)):=by rw [qH];exact ai wr _
       have aeT:=(ae qx).trans (ph.mono (ae qx).size);obtain ⟨aeU,ai4⟩:=ae HT W1 aeT;obtain ⟨q0,q1,q2⟩:=aR aeU;obtain ⟨k0,k1⟩:=bj nN;have ai5:=az aeU;have aoy:=az nN;have HAG:=hide (λw2 (hb:Below W1.heap.size W1 w2)=>Nq (r:=x) (bF.below hav (ph.trans (hb.mono ph.size)) (af _)) (bF.below ai4 hb (af _)) (ae G9).2.2);obtain ⟨F,hF⟩:∃F,F=Qe (ft x tc.cols):=⟨_,rfl⟩;rw [<- hF] at HAG;have HF:=hide hF;have U4:(W1.alloc (.cells #[.int .i64 0,.int .i64 0] 72)).drew.heap.size=W1.heap.size+1:=by show (W1.heap.push _).size=_;rw [dq]
       have qK:=hide (λw2 (hb:Below (W1.alloc (.cells #[.int .i64 0,.int .i64 0] 72)).drew.heap.size (W1.alloc (.cells #[.int .i64 0,.int .i64 0] 72)).drew w2)=>(show w2.heap[W1.heap.size]?=some (.cells #[.int .i64 0,.int .i64 0] 72 (0,0))/\Below W1.heap.size W1 w2 from
        ⟨(hb.block W1.heap.size (by omega)).trans (ai W1 (.cells #[.int .i64 0,.int .i64 0] 72)),(aJ ((ag W1.heap.size W1).alloc (af _) _)).trans (hb.mono (by omega))⟩))
       have Ga:=hide aeT;have xX:=hide qH;clear XA nG bL bO Ha hrr Gt Bo hx qH ph nN Oc J9 Xo hav QZ aeU ai4 hF U4 aeT;go_wp2_with fail;rw [<- ae xX];clear x0 x1
       go_cut [8] (λs8 wx=>∃b9,s8=.pointer (some ⟨b9,0,none⟩)/\Hid (wx.heap[b9]?=some (.cells #[.int .i64 F.1,.int .i64 F.2] 72 (0,0))/\Below W1.heap.size W1 wx))
       case first=>
        go_region_law (refine iV rfl 224 _ _ rfl Tryz.call224 #[.agg #[.int .i64 x.pl,.slice ra x.vals.length Ad],.slice ca tc.cols.length kV] (by first|(simp [Act.eval];done)|(simp [Act.eval,Act.put];done)|rfl) _ (ae HAG _ (by first|exact aJ (ag _ _)|exact aJ ((ag _ _).alloc (af _) _))) ?_;rintro e w2 ⟨rfl,bO⟩;refine ⟨_,rfl,?_⟩;(first|(have KT:=(ae qK w2 bO).1;obtain ⟨a0,a1⟩:=bj KT;have ga:=λi=>lz KT i;have HX9:=hide KT;clear KT)|skip);have jg:Hid (Below W1.heap.size W1 w2):=hide (by first|exact (aJ (ag _ _)).trans bO|exact (ae qK w2 bO).2);clear bO)
        all_goals (try go_wp2_with fail)
        all_goals go_meet
        all_goals
         first
         |exact ⟨_,rfl,hide ⟨ai _ _,(ae jg).alloc (ae jg).size _⟩⟩
         |exact ⟨_,rfl,hide ⟨aO _ _ 1 _ _ _ (aO _ _ 0 _ _ _ (ae HX9)),((ae jg).setCell (af _) _).setCell (af _) _⟩⟩
       case rest=>
        obtain ⟨b9,rfl,H9⟩:=hcut;clear k0 k1 q0 q1 q2 HAG qK ai5 aoy;obtain ⟨Ia,N9⟩:=ae H9;obtain ⟨o0,o1⟩:=bj Ia;have Qa:=hide (oM F.1 F.2 wc);have aeS:=az Ia;clear Ia N9
        (try go_wp2_with fail)
        refine (ae Qa).mono ?_;rintro r w3 ⟨rfl,eD⟩;obtain ⟨Ia,N9⟩:=ae H9;have tq:=(eD.block _ aeS).trans Ia;obtain ⟨g0,g1⟩:=bj tq;have vN:=(ae Ga).trans ((N9.trans (eD.mono N9.size)).mono (ae Ga).size);obtain ⟨-,wZ,-,Ic,-⟩:=ae HB w3 vN;obtain ⟨f0,f1⟩:=bj Ic;have z0:=lz Ic 0;have z1:=lz Ic 1;have XE:=az Ic;have HF3:=hide Ic;have I8:=hide wZ;have px:=hide vN;clear Ia N9 eD tq vN wZ Ic o0 o1
        cases hag:ft x tc.cols with
        |none=>
          have hF:=ae HF;rw [hag] at hF XJ;have hd:decide (F.1≠0)=false:=by rw [hF];rfl
          rw [hd];clear hd hF hag;go_wp2_with fail
          first
          |exact ⟨⟨i+1,by omega,by go_num,XJ,px⟩,by simp [intOf];omega⟩
          | (go_roundw
             case rel=>exact ⟨i+1,by omega,by go_num,XJ,px⟩
             case measure=>simp [intOf];omega)
        |some b=>
          have hF:=ae HF;rw [hag] at hF XJ;have hd:decide (F.1≠0)=true:=by rw [hF];rfl
          have zA:Hid (yB (cw tl gl) t rows=(F,cw tl gl)):=hide (by rw [ae Oa,ae XJ,hF];rfl);rw [hd];clear hd hF hag;go_wp2_with fail;obtain ⟨⟨d0,d1⟩,d2⟩:=eX (ae I8) (cq _) (ae HF3) (.int .i64 F.1) (.int .i64 F.2);refine ay (v:=.agg #[.int .i64 F.1,.int .i64 F.2]) (by simp [results,Tryz.results225,go_sem,d0,d1];try rfl) rfl ?_;rw [ae zA];exact (ae HH).same d2 F rfl
     . obtain rfl:i=vr.length:=by omega
       have CV:rows.findSome? (λr=>ft r tc.cols)=none:=by rw [ae HFS,ae YV,iO];rfl
       rw [CV] at Oa;have E4:Hid (∀r∈rows,ft r tc.cols=none):=hide (λr hr=>by
        have:=List.findSome?_eq_none_iff.mp CV r hr;simpa using this)
       obtain ⟨c0,c1,c2⟩:=aR bL;obtain ⟨q0,q1,q2⟩:=aR Gt;obtain ⟨f0,f1⟩:=bj bO;have z0:=lz bO 0;have z1:=lz bO 1;have ai5:=az Gt;have am8:=az bL;have auP:=az bO;have auQ:=az XA.dV;obtain ⟨e0,e1,e2,e3,e4,e5,e6,e7⟩:=dG XA.dV;have Qa:=hide bO;have HLI:=hide nG;rw [<- ae YV] at Oa;clear XA nG bL bO Ha hrr Gt Bo CV;by_cases ai6:64<N+vr.length
       . have h65:((N:Nat):Int)+(vr.length:Nat)>64:=by omega
         rw [aH ai6] at Oa;go_wp2_with fail;go_quiet (fail);go_wp2_with fail;obtain ⟨⟨d0,d1⟩,d2⟩:=eX (w1:=wr.drewN nq) (below_drewN (ae HLI) _) (cq _) (ae Qa) (.int .i64 8) (.int .i64 0);refine ay (v:=.agg #[.int .i64 8,.int .i64 0]) (by simp [results,Tryz.results225,go_sem,d0,d1];try rfl) rfl ?_;rw [ae Oa];exact (ae HH).same d2 (8,0) rfl
       . have h65:¬((N:Nat):Int)+(vr.length:Nat)>64:=by omega
         rw [aA ai6] at Oa;go_wp2_with fail;go_quiet (fail);obtain ⟨W3,TS⟩:∃W3,W3=wr.drewN nq:=⟨_,rfl⟩;have vN:Below W.heap.size W W3:=by rw [TS];exact below_drewN (ae qx) _
         rw [<- TS];obtain ⟨xI,wZ,OY,Ic,ai7,ai8⟩:=ae HB W3 vN;obtain ⟨Hc,XD⟩:=ae HT W3 vN;clear c0 c1 c2 q0 q1 q2 f0 f1 z0 z1 e0 e1 e2 e3 e4 e5 e6 e7 TS;obtain ⟨c0,c1,c2⟩:=aR OY;obtain ⟨q0,q1,q2⟩:=aR Hc;obtain ⟨e0,e1,e2,e3,e4,e5,e6,e7⟩:=dG xI.dV;have V7:=az Hc;have auS:=az OY;have Zi:=az xI.dV;have XE:=az Ic;have px:=hide vN;have Ml:Hid (∀r∈rows,r.vals.length=tc.cols.length):=hide (λr hr=>(CU (hrf r hr) (ae E4 r hr)).1);have ai9:Hid (jh tc.cols (rows.map FE)):=hide (λr hr=>by
          obtain ⟨x,hx,rfl⟩:=dv.mp hr;exact (CU (hrf x hx) (ae E4 x hx)).2)
         have HBC:=hide (λwx (hb:Below W3.heap.size W3 wx)=>H7 (w:=wx) (t:=t) (n:=tc.cols.length) (bF.below ai7 hb (af _)) (ai8.mono (λ_ _ _ hx=>⟨hx.1,bF.below hx.2 hb (af _)⟩)) (ae Ml) (ae HTF).2.2.2 h5 Ey);have YF:=hide (λw2 bv vs base (hb:Below W3.heap.size W3 w2) (hbs:W3.heap.size<=base) (ho:oH w2 base bv vs (bX tc.cols.length (rows.map FE)))=>(show Calls Tryz.prog 219 #[.pointer (some ⟨tc.q,0,none⟩),bv,.int .i64 (vr.length:Nat),.agg #[.int .i64 o.seg,.int .i64 o.pk,.int .i64 o.wd,.bool o.prune,.bool o.push,.int .i64 o.bud]] w2 (λr w'=>r=.returned (.tuple #[])/\∃Da Bk tr,py (λb=>X b\/b=w.heap.size+1) w2 w' tc.q 0 tc.cols tc.cv tc.sv Da Bk tr (N+vr.length:Nat)/\lF o.seg tr/\tr.flatten=tc.Cs.flatten++rows.map FE) from by
          have kX:=wZ.trans (hb.mono wZ.size);have nQ:w.heap.size+1<w2.heap.size:=aF XE hb.size;have hSW:=(ae HH).wide kX (cq _) nQ;have htw:=hSW.tab _ (ae HTM);have yH:∀b,jP tc.q tc.sv b->X b\/b=w.heap.size+1:=λb Cm=>hSW.sub b (.inr (.inr ⟨_,ae HTM,Cm⟩));have hA:=htw.adds hSW.nO yH;rw [<- ae HN] at hA;have ZU:(rows.map FE).length=vr.length:=by rw [aW,ae YV]
          have ad8:=ZM (w:=w2) (mv:=bv) (new:=rows.map FE) o (ae HN) hA (ae HTF).2.1 (ho.away (λb Cm=>by
           have h1:b<W3.heap.size:=jP.inside ((ae HB W3 (ae px)).1.tab _ (ae HTM)) Cm;omega)) (ae HTF).1 (ae ai9) (by rw [ZU];omega) (by rw [ZU,ae YV];exact nM.mpr ZA) (ae HTF).2.2.1 (ae HTF).2.2.2 h5 (aN _)
          rw [ZU] at ad8;exact ad8))
         have HBS:=hide (λw2 (hb:Below W3.heap.size W3 w2)=>(show w2.cell? ⟨w.heap.size,2,none⟩=some (.slice va vr.length cJ)/\(w2.cell? ⟨p,0,none⟩=some (.int .i64 o.seg)/\w2.cell? ⟨p,1,none⟩=some (.int .i64 o.pk)/\w2.cell? ⟨p,2,none⟩=some (.int .i64 o.wd)/\w2.cell? ⟨p,3,none⟩=some (.bool o.prune)/\w2.cell? ⟨p,4,none⟩=some (.bool o.push)/\w2.cell? ⟨p,5,none⟩=some (.int .i64 o.bud))/\w.heap.size<w2.heap.size/\p<w2.heap.size from by
          obtain ⟨k1,-,k3,-⟩:=ae HB w2 ((ae px).trans (hb.mono (ae px).size));obtain ⟨j0,j1,j2,j3,j4,j5,-,-⟩:=dG k1.dV;exact ⟨(aR k3).2.2,⟨j0,j1,j2,j3,j4,j5⟩,az k3,az k1.dV⟩))
         have I8:=hide wZ;have HF3:=hide Ic;clear xI wZ OY Ic ai7 ai8 Hc XD vN
         (try go_wp2_with fail)
         go_cut [] (λwx=>Hid (∃w2 Da Bk tr,Below W3.heap.size W3 w2/\py (λb=>X b\/b=w.heap.size+1) w2 wx tc.q 0 tc.cols tc.cv tc.sv Da Bk tr (N+vr.length:Nat)/\lF o.seg tr/\tr.flatten=tc.Cs.flatten++rows.map FE))
         case first=>
          go_region_law (first
           | (refine iV rfl 226 _ _ rfl Tryz.call226 #[.agg #[.string t.1,.int .i64 t.2,.slice va vr.length cJ],.int .i64 tc.cols.length] (by first|(simp [Act.eval];done)|(simp [Act.eval,Act.put];done)|rfl) _ (ae HBC _ (aJ (ag _ _))) ?_;rintro e w2 ⟨bv,vs,rfl,hO,bO⟩;refine ⟨_,rfl,?_⟩;obtain ⟨ba,rj,rfl,-,-⟩:=di hO.row;have jg:Hid (Below W3.heap.size W3 w2):=hide ((aJ (ag _ _)).trans bO);obtain ⟨l0,⟨l1,l2,l3,l4,l5,l6⟩,l7,l8⟩:=ae HBS w2 (ae jg);have HO:=hide hO;clear hO bO)
           | (refine iV rfl 219 _ _ rfl Tryz.call219 #[.pointer (some ⟨tc.q,0,none⟩),.slice ba _ rj,.int .i64 vr.length,.agg #[.int .i64 o.seg,.int .i64 o.pk,.int .i64 o.wd,.bool o.prune,.bool o.push,.int .i64 o.bud]] (by first|(simp [Act.eval];done)|(simp [Act.eval,Act.put];done)|rfl) _ (ae YF _ _ _ _ (ae jg) (by simp) (ae HO)) ?_;rintro e w4 ⟨rfl,hA⟩;refine ⟨_,rfl,?_⟩;have HA:=hide hA;clear hA))
          all_goals (try go_wp2_with fail)
          all_goals go_meet
          all_goals
           obtain ⟨Da,Bk,tr,hA,hB,hC⟩:=ae HA;exact hide ⟨w2,Da,Bk,tr,ae jg,hA,hB,hC⟩
         case rest=>
          obtain ⟨w2,Da,Bk,tr,bO,hA,IC,yh⟩:=ae hcut;have kX:=(ae I8).trans (bO.mono (ae I8).size);have nQ:w.heap.size+1<w2.heap.size:=aF XE bO.size;have LA:wc.heap[w.heap.size+1]?=some (.cells #[.int .i64 0,.int .i64 0] 72 (0,0)):=by
           refine (hA.keep.block _ ⟨nQ,λhm=>?_⟩).trans ((bO.block _ XE).trans (ae HF3));have:=(ae HH).nO _ ((ae HH).sub _ (.inr (.inr ⟨_,ae HTM,hm⟩)));omega
          have E5:Hid (∀W9,W9=(wc.setCell ⟨w.heap.size+1,0,none⟩ (.int .i64 0)).setCell ⟨w.heap.size+1,1,none⟩ (.int .i64 0)->jR o w W9 p mt mg X tl (yB (cw tl gl) t rows) (.returned (.agg #[.int .i64 0,.int .i64 0]))):=hide (λW9 h9=>by
           rw [ae Oa];refine Xm (ae HH) kX (cq _) nQ (ae HTM) hA ?_ IC yh (ae ai9) ?_ h9 rfl
           . rw [yh,au,aW,<- ae HN,ae YV]
           . rw [yh,au,aW,<- ae HN,<- ae YV];omega)
          obtain ⟨f0,f1⟩:=bj LA;have z0:=lz LA 0;have z1:=lz LA 1;have aot:=az LA;have HFC:=hide LA;clear bO hA IC yh kX nQ LA hcut;go_wp2_with fail;obtain ⟨d0,d1⟩:=bj (aO _ _ 1 _ _ (.int .i64 0) (aO _ _ 0 _ _ (.int .i64 0) (ae HFC)));refine ay (v:=.agg #[.int .i64 0,.int .i64 0]) (by simp [results,Tryz.results225,go_sem,d0,d1];try rfl) rfl ?_;exact ae E5 _ rfl
end
end Go.Proofs.YteniahoehoncjaaGreatDoor
