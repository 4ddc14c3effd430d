import Derived.Test.YteniahoehoncjaaGreatDoorQBR
set_option maxHeartbeats 99999999
set_option maxRecDepth 100000
namespace Go.Proofs.YteniahoehoncjaaGreatDoor
open Go.RowKit
section
open Go.Maps
theorem Yq {a b:nU}(h:a.bud<=b.bud):a.opt.bud<=b.opt.bud:=by
 obtain ⟨a1,a2,a3,a4,a5,a6⟩:=a;obtain ⟨b1,b2,b3,b4,b5,b6⟩:=b;simp only at h;show (min (max a6 0) 4096).toNat<=(min (max b6 0) 4096).toNat;omega
theorem QG {w:World}{f:nU}{ops:List OpS}{sv:Value}{user query:ByteArray}{more:Int}(hg:qc w)(hs:bF w 3 sv ops.length (ops.flatMap Yj))(hl:ops.length<=9000000000000000000)(hu:∀x∈ops,x.2.1.size<=maxLen)(Pe:user.size<=maxLen) :
 Calls Tryz.prog 4 #[f.val,sv,.string user,.string query,.int .i64 more] w λr w'=>r=.returned (.bool true)/\Below w.heap.size w w':=by
 obtain ⟨va,cJ,rfl⟩:=bF.slice hs;obtain ⟨seg,pk,wd,prune,push,bud⟩:=f;have Uu:nU.val ⟨seg,pk,wd,prune,push,bud⟩=.agg #[.int .i64 seg,.int .i64 pk,.int .i64 wd,.bool prune,.bool push,.int .i64 bud]:=rfl;have hgv:nU.val ⟨seg,pk,wd,prune,push,more⟩=.agg #[.int .i64 seg,.int .i64 pk,.int .i64 wd,.bool prune,.bool push,.int .i64 more]:=rfl;obtain ⟨f,hf⟩:∃f:nU,f=⟨seg,pk,wd,prune,push,bud⟩:=⟨_,rfl⟩;obtain ⟨g,tu⟩:∃g:nU,g=⟨seg,pk,wd,prune,push,more⟩:=⟨_,rfl⟩;rw [<- hf] at Uu ⊢;rw [<- tu] at hgv;have HMO:Hid (bud<=more->f.opt.bud<=g.opt.bud):=hide (λh=>Yq (by rw [hf,tu];exact h));obtain ⟨W,hW⟩:∃W,W=w.alloc (.cells #[.int .i64 seg,.int .i64 pk,.int .i64 wd,.bool prune,.bool push,.int .i64 bud] 23):=⟨_,rfl⟩;have lK:Below w.heap.size w W:=by rw [hW];exact (ag _ _).alloc (af _) _
 have Vb:W.heap[w.heap.size]?=some (.cells #[.int .i64 seg,.int .i64 pk,.int .i64 wd,.bool prune,.bool push,.int .i64 bud] 23 (0,0)):=by rw [hW];exact ai w _
 have qK:=hide (Ci f (hg.on (lK.mono hg.size)));have HG:=hide hg;have HS:=hide hs;have HU:=hide hu;have oD:=hide lK;have HW:=hide hW;have HKW:=hide Vb;have hlW:=az Vb;rw [Uu] at qK ⊢;have HFV:=hide Uu;have HGV:=hide hgv;clear hg hs hu lK hW Vb hf Uu hgv tu;go_enter Tryz.func4,Tryz.ntmps4;go_wp2_with fail;rw [<- ae HW];refine (ae qK).mono ?_;rintro r w1 ⟨rfl,bL⟩;have oq:=(ae oD).trans (bL.mono (ae oD).size);have nN:=(bL.block _ hlW).trans (ae HKW);obtain ⟨j0,j1,j2,j3,j4,j5⟩:=om nN;have Db:=az nN;have eI:=hide oq;have vH:=hide nN;clear bL oq nN;by_cases hmb:more<bud
 . go_wp2_with fail
   go_ret;exact ⟨rfl,(ae eI).alloc (ae eI).size _⟩
 . obtain ⟨W1,qH⟩:∃W1,W1=w1.alloc (.cells #[.int .i64 seg,.int .i64 pk,.int .i64 wd,.bool prune,.bool push,.int .i64 more] 23):=⟨_,rfl⟩
   have afw:Below w1.heap.size w1 W1:=by rw [qH];exact (ag _ _).alloc (af _) _
   have oq:=(ae eI).trans (afw.mono (ae eI).size);have C5:=(ae HG).on (oq.mono (ae HG).size);have hkF:=(afw.block _ Db).trans (ae vH);have hkG:W1.heap[w1.heap.size]?=some (.cells #[.int .i64 seg,.int .i64 pk,.int .i64 wd,.bool prune,.bool push,.int .i64 more] 23 (0,0)):=by rw [qH];exact ai w1 _
   have HIQ:=hide (sq query W1 C5.laid (by have:=C5.size;omega));have Ga:=hide oq;have HKF:=hide hkF;have HKG:=hide hkG;have xX:=hide qH;have hmo:=ae HMO (by omega);have HML:=hide hmo;clear afw oq C5 hkF hkG qH hmo;go_wp2_with fail;rw [<- ae xX];refine (ae HIQ).mono ?_;rintro r w2 ⟨rfl,bO⟩;have qR:=(ae Ga).trans (bO.mono (ae Ga).size);have jg:=hide qR
   cases hq:D9 query with
   |false=>
     clear bO qR j0 j1 j2 j3 j4 j5;go_wp2_with fail;go_ret;exact ⟨rfl,ae jg⟩
   |true=>
     have afx:=(bO.block _ (az (ae HKF))).trans (ae HKF);have aj2:=(bO.block _ (az (ae HKG))).trans (ae HKG);have qF:=(ae HG).on (qR.mono (ae HG).size);have HP1:=hide (zF (f:=f) qF (bF.below (ae HS) qR (af _)) hl (ae HU) (X0:=λ_=>False) (λb hb=>hb.elim));rw [ae HFV] at HP1;obtain ⟨i0,i1,i2,i3,i4,i5⟩:=om afx;have hlF:=az afx;have aj3:=hide aj2;clear bO qR afx aj2 qF j0 j1 j2 j3 j4 j5;go_wp2_with fail;refine (ae HP1).mono ?_;rintro r w3 ⟨p,X3,M3,rfl,qn,-,-,hm,eD⟩;have vN:=(ae jg).trans (eD.mono (ae jg).size);have NT:=(ae HG).on (vN.mono (ae HG).size);have afy:=(eD.block _ (az (ae aj3))).trans (ae aj3);obtain ⟨k0,k1,k2,k3,k4,k5⟩:=om afy;have hlG:=az afy;have HP2:=hide (zF (f:=g) NT (bF.below (ae HS) vN (af _)) hl (ae HU) (X0:=X3) qn.nO);rw [ae HGV] at HP2;have Ez:=hide qn;have IJ:=hide (λb hb=>(show w.heap.size<=b from aw (ae jg).size (hm b hb)));have px:=hide vN;clear qn hm eD vN NT afy i0 i1 i2 i3 i4 i5;go_wp2_with fail;refine (ae HP2).mono ?_;rintro r w4 ⟨p2,X4,M4,rfl,C4,D0,CH,Y1,me⟩;obtain ⟨st,iP⟩:∃st,st=vE ⟨[],[]⟩ ops:=⟨_,rfl⟩;rw [<- iP] at C4 Ez;have KW:=(ae px).trans (me.mono (ae px).size);have N8:=(ae HG).on (KW.mono (ae HG).size);have yW:One f.opt w4 p X4 M3 st:=(ae Ez).stays me.size (λb h1 _=>me.block b h1) (λb hb=>me.block b ((ae Ez).nO b ((ae Ez).sub b hb))) D0 CH C4.nO;have aj4:∀b,M3 b->¬M4 b:=λb h1 h2=>by
      have:=(ae Ez).nO b ((ae Ez).sub b h1);have:=Y1 b h2;omega
     have HA:=hide (oe yW N8 (user:=user) (text:=query) Pe);rw [rI (bud:=f.opt.bud) (st:=st) (user:=user) hq] at HA;have HTA:=hide (uX (bud:=f.opt.bud) yW.told hq Pe);have HTB:=hide (uX (bud:=g.opt.bud) yW.told hq Pe);have Z9:=hide yW;have ug:=hide C4;have HD:=hide aj4;have HM4:=hide (λb hb=>(show w.heap.size<=b from aw (ae px).size (Y1 b hb)));have DP:=hide KW;clear C4 D0 CH Y1 me iP KW N8 yW aj4 k0 k1 k2 k3 k4 k5;go_wp2_with fail;refine (ae HA).mono ?_;rintro r w5 ⟨rfl,-,X5,M5,QC⟩;obtain ⟨A,hA⟩:∃A,A=(qA f.opt.bud st user query).1:=⟨_,rfl⟩;rw [<- hA] at HTA ⊢;have Gr:=hide hA;obtain ⟨KV,-,hn5,hl5,-,-⟩:=tX (ae IJ) (ae DP).size QC (.cells #[.string ⟨A.1.toArray⟩,.int .i64 (A.2.1:Nat),.int .i64 (A.2.2:Nat)] 30);have Ob:=ai w5 (.cells #[.string ⟨A.1.toArray⟩,.int .i64 (A.2.1:Nat),.int .i64 (A.2.2:Nat)] 30);have ke:=((ae ug).beside QC (ae Z9).sub (ae HD)).wide ((ag w5.heap.size w5).alloc (af _) (.cells #[.string ⟨A.1.toArray⟩,.int .i64 (A.2.1:Nat),.int .i64 (A.2.2:Nat)] 30));have aj5:¬M4 w5.heap.size:=λhm=>by
      have:=(ae ug).nO _ ((ae ug).sub _ hm);have:=QC.keep.size;omega
     obtain ⟨W5,DX⟩:∃W5,W5=w5.alloc (.cells #[.string ⟨A.1.toArray⟩,.int .i64 (A.2.1:Nat),.int .i64 (A.2.2:Nat)] 30):=⟨_,rfl⟩;rw [<- DX] at KV hl5 Ob ke;have vR:=hide ((ae DP).trans KV);have zG:=(ae HG).on ((ae vR).mono (ae HG).size);have HBQ:=hide (oe ke zG (user:=user) (text:=query) Pe);rw [rI (bud:=g.opt.bud) (st:=st) (user:=user) hq] at HBQ;have Y3:=hide Ob;have HN5:=hide aj5;have YR:=hide DX;unfold rP;clear QC hA KV hn5 Ob ke aj5 DX zG;go_wp2_with fail;rw [<- ae YR];refine (ae HBQ).mono ?_;rintro r w6 ⟨rfl,-,X6,M6,U2⟩;obtain ⟨B,hBB⟩:∃B,B=(qA g.opt.bud st user query).1:=⟨_,rfl⟩;rw [<- hBB] at HTB ⊢;obtain ⟨Np,-,-,-,-,QD⟩:=tX (ae HM4) (ae vR).size U2 (.cells #[.string ⟨B.1.toArray⟩,.int .i64 (B.2.1:Nat),.int .i64 (B.2.2:Nat)] 30);have RL:=ai w6 (.cells #[.string ⟨B.1.toArray⟩,.int .i64 (B.2.1:Nat),.int .i64 (B.2.2:Nat)] 30);have hbm:=NJ (st:=st) (user:=user) (ae HML) hq;rw [<- ae Gr,<- hBB] at hbm;have hkw:=(U2.keep.block w5.heap.size ⟨hl5,ae HN5⟩).trans (ae Y3);obtain ⟨x0,x1,x2⟩:=aR hkw;have U3:=az hkw;have NL:=(QD _ hl5 (ae HN5)).1.trans (ae Y3);obtain ⟨W6,RJ⟩:∃W6,W6=w6.alloc (.cells #[.string ⟨B.1.toArray⟩,.int .i64 (B.2.1:Nat),.int .i64 (B.2.2:Nat)] 30):=⟨_,rfl⟩;rw [<- RJ] at Np RL NL;have vS:=hide ((ae vR).trans Np);have ym:=hide (λwr (hb:Below W6.heap.size W6 wr)=>(show (wr.cell? ⟨w5.heap.size,0,none⟩=some (.string ⟨A.1.toArray⟩)/\wr.cell? ⟨w5.heap.size,1,none⟩=some (.int .i64 (A.2.1:Nat))/\wr.cell? ⟨w5.heap.size,2,none⟩=some (.int .i64 (A.2.2:Nat)))/\(wr.cell? ⟨w6.heap.size,0,none⟩=some (.string ⟨B.1.toArray⟩)/\wr.cell? ⟨w6.heap.size,1,none⟩=some (.int .i64 (B.2.1:Nat))/\wr.cell? ⟨w6.heap.size,2,none⟩=some (.int .i64 (B.2.2:Nat)))/\w5.heap.size<wr.heap.size/\w6.heap.size<wr.heap.size/\Below w.heap.size w wr from by
      have hA:=(hb.block _ (az NL)).trans NL;have hB:=(hb.block _ (az RL)).trans RL;exact ⟨aR hA,aR hB,az hA,az hB,(ae vS).trans (hb.mono (ae vS).size)⟩))
     have UW:=hide (Bb (ae HTA) W6);have HBM:=hide hbm;have HW6:=hide RJ;unfold rP at UW ⊢;clear U2 hBB Np RL QD NL RJ hkw hbm;go_wp2_with fail;rw [<- ae HW6];refine (ae UW).mono ?_;rintro r w7 ⟨rfl,Pw⟩;obtain ⟨⟨x0',x1',x2'⟩,⟨y0,y1,y2⟩,l5,l6,U6⟩:=ae ym w7 Pw;have Ld:=hide (Bb (ae HTB) w7);have Rw:=hide Pw;unfold rP at Ld;clear Pw U6 x0 x1 x2;go_wp2_with fail;refine (ae Ld).mono ?_;rintro r w8 ⟨rfl,B5⟩;have Uv:=(ae Rw).trans (B5.mono (ae Rw).size);obtain ⟨⟨x0,x1,x2⟩,⟨y0',y1',y2'⟩,l5',l6',Y6⟩:=ae ym w8 Uv;have Y0:=hide Y6;obtain ⟨Yr,Ys⟩:=ae HBM;clear B5 Uv Y6 x0' x1' x2' y0 y1 y2;by_cases Tj:A.2.1=10
     . rw [Tj] at x1
       rcases Ys Tj with hb|hb
       . have bL:(((B.2.1:Nat):Int) != 10)=true:=by rw [gy];omega
         clear Yr Ys;go_wp2_with fail
         (try go_quiet (fail))
         (try go_wp2_with fail)
         go_ret;exact ⟨qd (by first|rfl|simp_all),by repeat (first|exact ae Y0|refine below_drewN ?_ _|refine aJ ?_)⟩
       . have bL:((B.2.2:Nat):Int)>=(A.2.2:Nat):=by omega
         by_cases apg:B.2.1=10
         . rw [apg] at y1'
           clear Yr Ys;go_wp2_with fail
           (try go_quiet (fail))
           (try go_wp2_with fail)
           go_ret;exact ⟨qd (by first|rfl|exact bu bL|simp_all),by repeat (first|exact ae Y0|refine below_drewN ?_ _|refine aJ ?_)⟩
         . have bO:(((B.2.1:Nat):Int) != 10)=true:=by rw [gy];omega
           clear Yr Ys;go_wp2_with fail
           (try go_quiet (fail))
           (try go_wp2_with fail)
           go_ret;exact ⟨qd (by first|rfl|simp_all),by repeat (first|exact ae Y0|refine below_drewN ?_ _|refine aJ ?_)⟩
     . have hAB:=Yr Tj
       subst hAB;have Gy:(((A.2.1:Nat):Int) != 10)=true:=by rw [gy];omega
       have HSM:=hide (Ba A A w8);rw [bu rfl] at HSM;unfold rP at HSM;clear Yr Ys;go_wp2_with fail;refine (ae HSM).mono ?_;rintro r w9 ⟨rfl,Lb⟩;have Ii:=hide ((ae Y0).trans (Lb.mono (ae Y0).size));clear Lb;go_wp2_with fail;go_ret;exact ⟨rfl,ae Ii⟩
end
end Go.Proofs.YteniahoehoncjaaGreatDoor
