import Derived.Test.YteniahoehoncjaaGreatDoorQAS
set_option maxHeartbeats 99999999
set_option maxRecDepth 100000
namespace Go.Proofs.YteniahoehoncjaaGreatDoor
open Go.RowKit
def EY:dQ->Bool
 |.inl c=>!c.null&&decide (c.n=1)
 |.inr _=>false
def nY (sh:List Nat)(cs:List (List aL))(ρ:Nat):List aL:=sh.map λs=>(cs.getD s []).getD ρ eW
def ny (F:List aL->dQ)(sh:List Nat)(cs:List (List aL))(i:Nat):List (List aL):=((List.range i).filter λρ=>EY (F (rowOf cs ρ))).map (nY sh cs)
theorem pW {w1:World}{r:Nat}{a b c d:Value}{t:TypeId}(h:w1.heap[r]?=some (.cells #[a,b,c,d] t (0,0))):w1.cell? ⟨r,0,none⟩=some a/\w1.cell? ⟨r,1,none⟩=some b/\w1.cell? ⟨r,2,none⟩=some c/\w1.cell? ⟨r,3,none⟩=some d:=by simp [World.cell?,h]
theorem DQ (x e:Bool)(y:Int)(w:World):(binOp .neq 247 (.agg #[.bool x,.int .i64 y,.string ⟨#[]⟩,.bool e]) (.agg #[.bool false,.int .i64 1,.string ⟨#[]⟩,.bool false])).run Tryz.prog w=.ok (.bool (x||!decide (y=1)||e)) w:=by
 go_simp;by_cases h2:y=1<;>cases x<;>cases e<;>simp [h2]
theorem EZ (F:List aL->dQ)(sh:List Nat)(cs:List (List aL))(i:Nat):ny F sh cs (i+1)=ny F sh cs i++(if EY (F (rowOf cs i)) then [nY sh cs i] else []):=by
 unfold ny;rw [qt,rN,fB];congr 1;by_cases h:EY (F (rowOf cs i))=true
 . simp [h]
 . simp [h]
theorem SG (F:List aL->dQ)(sh:List Nat)(cs:List (List aL))(i:Nat):(ny F sh cs i).length<=i:=by
 unfold ny;rw [aW];exact aw (jX _ _) (by simp)
theorem gQ.sub {M M':Nat->Prop}{v:Value}(h:gQ M v)(hM:∀b,M' b->M b):gQ M' v:=λa n c hv hm=>h a n c hv (hM _ hm)
theorem wI {w1 w2:World}{base:Nat}{t:TypeId}{size:Nat}{v:Value}{n:Nat}{xs:List Value}(h:w1.ownsRow base t size v n xs)(hb:∀g,v.ownBlock=some g->w2.heap[g]?=w1.heap[g]?):w2.ownsRow base t size v n xs:=by
 refine ⟨h.1,?_⟩;rcases h.2 with h2|⟨q,cp,cur,hv,hq,hc,r⟩
 . exact .inl h2
 . exact .inr ⟨q,cp,cur,hv,hq,(hb q (by rw [hv];rfl)).trans hc,r⟩
theorem jL.restart {w w2:World}{r base:Nat}{kv cv:Value}{vs:List Value}{L:List (List aL)}{k:Int}(h:jL w w r base kv cv vs vs L k)(hb:Below w.heap.size w w2):jL w2 w2 r base kv cv vs vs L k:=by
 have h2:=h.below hb;exact ⟨h2.dV,h2.own,λu hu g hg=>.inl ⟨u,hu,hg⟩,aQ.refl _ _,h.Kd,h.EX,az h2.dV⟩
theorem jL.from {w w2 wr:World}{r base:Nat}{kv cv:Value}{vs EW:List Value}{L:List (List aL)}{k:Int}(h:jL w2 wr r base kv cv vs EW L k)(hb:Below w.heap.size w w2)(hr:r<w.heap.size):jL w wr r base kv cv vs EW L k:=
 ⟨h.dV,h.own,λu hu g hg=>(h.fresh u hu g hg).imp id (λe=>aw hb.size e),⟨h.keep.os.trans hb.os,h.keep.tape.trans hb.tape,h.keep.output.trans hb.output,aw hb.size h.keep.size,λb hk=>(h.keep.block b ⟨aF hk.1 hb.size,hk.2⟩).trans (hb.block b hk.1)⟩,h.Kd,h.EX,hr⟩
theorem V9 (c:aL):∀u∈nw c,u.oneCell'=true:=by
 intro u hu;simp [nw] at hu;rcases hu with rfl|rfl|rfl<;>rfl
theorem bF.kept {M:Nat->Prop}{w w':World}{size n:Nat}{v:Value}{xs:List Value}(h:bF w size v n xs)(hn:gQ M v)(hs:w.heap.size<=w'.heap.size)(hb:∀b,b<w.heap.size->¬M b->w'.heap[b]?=w.heap[b]?):bF w' size v n xs:=by
 refine ⟨h.1,?_⟩;rcases h.2 with h1|⟨g,o,cap,hv,NW,hg,hc⟩
 . exact .inl h1
 . refine .inr ⟨g,o,cap,hv,NW,by omega,λj hj=>?_⟩
   rw [<- hc j hj];exact bJ (w:=w) (a:=⟨g,o+j,none⟩) (hb g hg (hn _ _ _ hv))
theorem fC.kept {M:Nat->Prop}{w w':World}{v:Value}{L:List (List aL)}(h:fC M w v L)(hs:w.heap.size<=w'.heap.size)(hb:∀b,b<w.heap.size->¬M b->w'.heap[b]?=w.heap[b]?):fC M w' v L:=by
 obtain ⟨h1,vs,h2,h3⟩:=h;refine ⟨h1,vs,h2.kept h1 hs hb,λi c hi=>?_⟩;obtain ⟨u,h4,h5,h6⟩:=h3 i c hi;exact ⟨u,h4,h5.kept h6 hs hb,h6⟩
theorem jL.seen {w1 wr w3:World}{r base g0 n cap i:Nat}{kv u:Value}{Dc vs:List Value}{L:List (List aL)}{k:Int}{o:Obj}(h:jL w1 wr r base kv (.slice (some ⟨g0,0,none⟩) n cap) Dc vs L k)(hn:L.length=n)(hi:i<n)(hu:vs[i]?=some u)(hg:(wr.alloc o).drew.grownBy w3 u.ownBlock) :
 (∃x,w3.cell? ⟨g0,i,none⟩=some x)/\w3.frozen? ⟨g0,i,none⟩=false/\w3.cell? ⟨r,1,none⟩=some (.slice (some ⟨g0,0,none⟩) n cap):=by
 have hA:=h.below (aJ ((ag wr.heap.size wr).alloc (af _) o));have vL:=dJ hA.own.row hg (λk hk e=>h.own.off i u k hu hk (by simpa using e));rw [hn] at vL;have bW:w3.heap[r]?=some (.cells #[kv,.slice (some ⟨g0,0,none⟩) n cap,.int .i64 k] 150 (0,0)):=(hg.block r (az hA.dV) (λe=>h.EX u (aG hu) e.symm)).trans hA.dV;refine ⟨?_,vL.frozenAt i,(aR bW).2.1⟩;rw [vL.cellAt i (by omega)];exact ⟨_,ah (by have:=vL.1;omega)⟩
theorem share {A G:World->Prop}{P:Prop}(main:(∀w3,Hid (A w3)->G w3)->P)(key:∀w3,Hid (A w3)->G w3):P:=main key
theorem Hf {a w:World}{lo q r base m:Nat}{kv cv Gw wv bv:Value}{vs:List Value}{sh:List Nat}{cs:List (List aL)}{ok:List aL->Prop}{F:List aL->dQ}{R:List (List aL)}(hw:ef a lo wv ok F)(nQ:jy lo a.heap.size a w)(hF:∀row,ok row->∀c,F row=.inl c->tg c)
 (Dd:kF w Gw sh) (ahD:gQ (lf r cv vs) Gw) (E0:∀s∈sh,s<cs.length) (hs0:0<sh.length) (hs5:sh.length<=5) (hb:fC (lf r cv vs) w bv cs) (sS:∀c∈cs,c.length=m) (h0:0<cs.length) (h5:cs.length<=5) (hm0:0<m) (hm:m<=64) (kW:∀ρ,ρ<m->ok (rowOf cs ρ))
 (hR:jL w w r base kv cv vs vs (bX sh.length R) R.length) (hRl:R.length+m<=1000) (qv:base<=w.heap.size) :
 Calls Tryz.prog 85 #[.agg #[.pointer (some ⟨q,0,none⟩),Gw,wv],.pointer (some ⟨r,0,none⟩),bv] w λe w'=>e=.returned (.tuple #[])/\∃Bk,jL w w' r base kv cv vs Bk (bX sh.length (R++ny F sh cs m)) (R++ny F sh cs m).length:=by
 obtain ⟨n,iJ,rfl,hE,hC⟩:=hw;obtain ⟨j0,hj0,jz0,jz1,jz2⟩:=lE Tryz.BD;obtain ⟨sg,so,mb,he,-,-,-⟩:=bF.at Dd hs0;subst he;have Wa:=hR.own.row;rw [bC] at Wa;obtain ⟨ca,kV,rfl,hca,-⟩:=di Wa;obtain ⟨g0,rfl,-⟩:=hca hs0;clear Wa hca;obtain ⟨W,hW⟩:∃W,W=w.alloc (.cells #[.pointer (some ⟨q,0,none⟩),.slice (some ⟨sg,so,none⟩) sh.length mb,.func (.func n) #[] iJ] 141):=⟨_,rfl⟩;have kX:Below w.heap.size w W:=by rw [hW];exact (ag _ _).alloc (af _) _
 have hWv:W.heap[w.heap.size]?=some (.cells #[.pointer (some ⟨q,0,none⟩),.slice (some ⟨sg,so,none⟩) sh.length mb,.func (.func n) #[] iJ] 141 (0,0)):=by rw [hW];exact ai w _
 obtain ⟨c0,Ev⟩:∃c,cs[0]?=some c:=⟨cs[0],ah h0⟩;have ahE:=sS c0 (aG Ev);obtain ⟨bg,bo,rj,u0,he,hbg,d0,hu0⟩:=hb.batch.OQ Ev;subst he;obtain ⟨ua,td,he⟩:=bF.slice hu0;subst he;rw [ahE] at d0;have d0':=(kX.cell (p:=⟨bg,bo+0,none⟩) hbg).trans d0;rw [hW] at d0';rw [iY] at d0';have h0':(0:Int)<cs.length:=by omega
 have HU:=hide (LP m (by omega) W);have LV:=hide (λ(b:World) (hbb:Below w.heap.size w b) rv (QZ:kF b rv (List.range m))=>hC b ⟨aw nQ.1 hbb.size,λk h1 h2=>(hbb.block k (aF h2 nQ.1)).trans (nQ.2 k h1 h2)⟩ _ cs rv (List.range m) (hb.batch.below hbb (af _)) QZ (λx hx c hc=>by rw [sS c hc];exact o5.mp hx) (by rw [eS];exact hm) (λx hx=>kW x (o5.mp hx)));have HW:=hide hW;have wE:=hide kX;have HWV:=hide hWv;have HFF:=hide (λρ (h:ρ<m) c hc=>hF _ (kW ρ h) c hc);have HR:=hide hR;have HSH:=hide Dd;have Zg:=hide ahD;have HSL:=hide E0;have HB:=hide hb;have HCM:=hide sS;have HMB:Hid (∀b,lf r (.slice (some ⟨g0,0,none⟩) sh.length kV) vs b->b<w.heap.size):=hide (λb hbm=>by
  rcases hbm with e|e|⟨u,hu,e⟩
  . have:=hR.lr;omega
  . exact (hR.own.row.lt b e).2
  . obtain ⟨i,hi⟩:=cm hu
    exact (hR.own.each.lt hi e).2)
 have Ey:=hR.lr;unfold Enters at hE;clear hu0 ahE Ev d0 hC nQ hF Dd ahD E0 hb sS kW hR hW kX hWv;go_enter Tryz.func85,Tryz.ntmps85;go_wp2_with fail;rw [<- ae HW];refine (ae HU).mono ?_;rintro e w1 ⟨rv,rfl,QZ,bL⟩;have oq:=(ae wE).trans (bL.mono (ae wE).size);have adO:=(bL.block _ (az (ae HWV))).trans (ae HWV);obtain ⟨y0,y1,y2⟩:=aR adO;have yR:kF w1 rv (List.range m):=by unfold kF;rw [eS];exact bF.jt QZ
 have UO:=hide (ae LV w1 oq rv yR);obtain ⟨ra,Ad,rfl,-,-⟩:=di QZ;have eI:=hide oq;have ahH:=hide adO;clear QZ bL yR oq HU LV d0' adO;go_wp2_with fail;refine (ae UO).mono ?_;rintro e w2 ⟨ov,rfl,hov,bO⟩;rw [eS] at hov;have qR:=(ae eI).trans (bO.mono (ae eI).size);have ahI:=(bO.block _ (az (ae ahH))).trans (ae ahH);obtain ⟨oa,asX,rfl,hoa,-⟩:=di hov;obtain ⟨og,rfl,hog⟩:=hoa hm0;have ahJ:=(hov.lt og rfl).2;have HOV:=hide hov;have jg:=hide qR;have adP:=hide ahI;have kd:=(ae eI).size;have N1:=hide ((ae HR).restart qR);have HT:=hide (λw=>tB true w);have HTV:Hid (yP (.inl (jr true))=.agg #[.bool false,.int .i64 1,.string ⟨#[]⟩,.bool false]):=hide rfl;rw [ae HTV] at HT;clear hov bO qR hoa UO ahI y0 y1 y2 HTV;go_wp2_with fail;go_loopw [23] (λc wr=>∃(i:Nat) (EW:List Value),i<=m/\c=.int .i64 i/\Hid (jL w2 wr r base kv (.slice (some ⟨g0,0,none⟩) sh.length kV) vs EW (bX sh.length (R++ny F sh cs i)) (R++ny F sh cs i).length)) (λc _=>m - (intOf c).toNat)
 case atStart=>exact ⟨0,vs,aN _,rfl,by simpa [ny] using N1⟩
 case round=>
  obtain ⟨i,EW,hi,rfl,Bj⟩:=hrel;by_cases cF:i<m
  . have jI:(i:Int)<m:=by omega
    have hov:=wI (ae HOV) (w2:=wr) (λg hg=>(ae Bj).old (by cases hg;exact ahJ) (λhm=>by cases hg;have h9:og<w.heap.size:=ae HMB _ hm;omega));have jM:((List.range m).map λρ=>F (rowOf cs ρ))[i]?=some (F (rowOf cs i)):=by rw [a7,jB cF];rfl
    obtain ⟨x1,y1,z1,e1,o7,-⟩:=gE (F (rowOf cs i));obtain ⟨⟨d0,d1,d2,d3⟩,-⟩:=jK hov jM o7;have ym:=hide (EZ F sh cs i);clear hov jM;have kH:(EY (F (rowOf cs i))=false/\((e1=true/\x1=false/\y1=0/\z1=⟨#[]⟩)\/(e1=false/\x1=true/\y1=0/\z1=⟨#[]⟩)\/(e1=false/\x1=false/\y1=0/\z1=⟨#[]⟩)))\/(EY (F (rowOf cs i))=true/\e1=false/\x1=false/\y1=1/\z1=⟨#[]⟩):=by
     cases hf:F (rowOf cs i) with
     |inr e=>rw [hf] at o7;simp [iD] at o7;exact .inl ⟨rfl,.inl ⟨o7.2.2.2,o7.1,o7.2.1.symm,o7.2.2.1.symm⟩⟩
     |inl c=>
       rw [hf] at o7;rcases ae HFF i cF c hf with rfl|rfl|rfl<;>(simp [iD,eW,oA] at o7;obtain ⟨rfl,rfl,rfl,rfl⟩:=o7)
       . exact .inl ⟨rfl,.inr (.inl ⟨rfl,rfl,rfl,rfl⟩)⟩
       . exact .inl ⟨rfl,.inr (.inr ⟨rfl,rfl,rfl,rfl⟩)⟩
       . exact .inr ⟨rfl,rfl,rfl,rfl,rfl⟩
    clear o7;obtain ⟨W2,La⟩:∃W2,W2=wr.alloc (.cells #[.bool x1,.int .i64 y1,.string z1,.bool e1] 247):=⟨_,rfl⟩;have ph:Below wr.heap.size wr W2:=by rw [La];exact (ag _ _).alloc (af _) _
    have hWo:W2.heap[wr.heap.size]?=some (.cells #[.bool x1,.int .i64 y1,.string z1,.bool e1] 247 (0,0)):=by rw [La];exact ai wr _
    have HAF:=hide (λ(w3:World) (h3:Below W2.drew.heap.size W2.drew w3)=>(show _/\_/\_ from ⟨pW ((h3.block _ (az (w:=W2) hWo)).trans hWo),(ae Bj).below ((aJ ph).trans (h3.mono ph.size)),(aJ ph).trans (h3.mono ph.size)⟩));have vG:=hide La;obtain ⟨p0,p1,p2,p3⟩:=pW hWo;clear La ph hWo;rcases kH with ⟨hk,OY⟩|⟨hk,rfl,rfl,rfl,rfl⟩
    . have HN:Hid (ny F sh cs (i+1)=ny F sh cs i):=hide (by rw [ae ym,hk];simp)
      clear hk;rcases OY with ⟨rfl,rfl,rfl,rfl⟩|⟨rfl,rfl,rfl,rfl⟩|⟨rfl,rfl,rfl,rfl⟩
      case' inl=>have iq:=DQ false true 0
      case' inr.inl=>have iq:=DQ true false 0
      case' inr.inr=>have iq:=DQ false false 0
      all_goals
       simp only [show decide ((0:Int)=1)=false from rfl,Bool.or_false,Bool.or_true,Bool.not_false] at iq;go_wp2_with fail;rw [<- ae vG];go_region_with (go_at_call 118;refine (ae HT _).mono ?_;rintro e w3 ⟨rfl,eD⟩;obtain ⟨⟨o0,o1,o2,o3⟩,vM,-⟩:=ae HAF w3 eD;have UM:=hide vM;clear eD vM)
       all_goals
        (try go_wp2_with fail)
        exact ⟨⟨i+1,EW,cF,by go_num,by rw [ae HN];exact UM⟩,by simp [intOf];omega⟩
    . have HN:Hid (ny F sh cs (i+1)=ny F sh cs i++[nY sh cs i]):=hide (by rw [ae ym,hk];simp)
      clear hk;have iq:=DQ false false 1;simp only [decide_true,Bool.or_false,Bool.not_true] at iq;go_wp2_with fail;rw [<- ae vG];obtain ⟨R',hR'⟩:∃R',R'=R++ny F sh cs i:=⟨_,rfl⟩;have hRn:R'.length<=R.length+i:=by rw [hR',au];have:=SG F sh cs i;omega
      have HNR:Hid (R++ny F sh cs (i+1)=R'++[nY sh cs i]):=hide (by rw [ae HN,hR',bh]);rw [<- hR'] at HAF Bj;clear HN hR' ym;have HAV:=hide (λw3 (h:jL w2 w3 r base kv (.slice (some ⟨g0,0,none⟩) sh.length kV) vs EW (bX sh.length R') R'.length)=>aR ((h.old (az (ae adP)) (λhm=>by have h9:=ae HMB _ hm;omega)).trans (ae adP)));apply share (A:=λw3=>jL w2 w3 r base kv (.slice (some ⟨g0,0,none⟩) sh.length kV) vs EW (bX sh.length R') R'.length)
      . intro key
        go_region_with (go_at_call 118;refine (ae HT _).mono ?_;rintro e w3 ⟨rfl,eD⟩;obtain ⟨⟨o0,o1,o2,o3⟩,vM,-⟩:=ae HAF w3 eD;have UM:=hide vM;clear eD vM)
        all_goals exact key w3 UM
      intro w3 (UM:Hid (jL w2 w3 r base kv (.slice (some ⟨g0,0,none⟩) sh.length kV) vs EW (bX sh.length R') R'.length));obtain ⟨-,v1,-⟩:=ae HAV w3 (ae UM);go_wp2_with fail;clear p0 p1 p2 p3 d0 d1 d2 d3 v1 iq HAF HAV vG Bj;go_loopw [35] (λc wx=>∃(j:Nat) (vs2:List Value),j<=sh.length/\c=.int .i64 j/\Hid (jL w2 wx r base kv (.slice (some ⟨g0,0,none⟩) sh.length kV) vs vs2 (nF (bX sh.length R') (bX sh.length [nY sh cs i]) j) R'.length)) (λc _=>sh.length - (intOf c).toNat)
      case atStart=>exact ⟨0,EW,aN _,rfl,by unfold nF;simpa using UM⟩
      case round=>
       obtain ⟨j,vs2,hj,rfl,NV⟩:=hrel;by_cases hjt:j<sh.length
       . have am0:(j:Int)<sh.length:=by omega
         have hR:=ae NV;obtain ⟨s,hs⟩:∃s,sh[j]?=some s:=⟨_,ah hjt⟩;have hsl:=ae HSL s (aG hs);have am1:(s:Int)<cs.length:=by omega
         obtain ⟨c,hc⟩:∃c,cs[s]?=some c:=⟨_,ah hsl⟩;have vQ:=ae HCM c (aG hc);obtain ⟨x,hx⟩:∃x,c[i]?=some x:=⟨_,ah (by omega)⟩;have Yy:∀b,b<w.heap.size->¬lf r (.slice (some ⟨g0,0,none⟩) sh.length kV) vs b->wr.heap[b]?=w.heap[b]?:=λb h1 h2=>(hR.old (aF h1 (ae jg).size) h2).trans ((ae jg).block b h1);have adQ:w.heap.size<=wr.heap.size:=aw (ae jg).size hR.keep.size;obtain ⟨sg',so',VZ,he,s0⟩:=kF.get (show kF wr _ sh from bF.kept (ae HSH) (ae Zg) adQ Yy) hs
         cases he
         obtain ⟨bg',bo',ahK,u',he,-,b0,hu'⟩:=((ae HB).kept adQ Yy).batch.OQ hc
         cases he
         obtain ⟨cg,co,LW,rfl,c0,c1,c2⟩:=lD.get hu' hx;rw [vQ] at b0;obtain ⟨a,hae⟩:∃a,a=R'.map λr=>r.getD j eW:=⟨_,rfl⟩;have pJ:a.length<=1000:=by rw [hae,aW];omega
         have ha:(nF (bX sh.length R') (bX sh.length [nY sh cs i]) j)[j]?=some a:=by rw [hae];exact (ES (by rw [bC,bC]) (by rw [bC];exact hjt)).trans (kz hjt)
         obtain ⟨u,hu,-⟩:=hR.own.each.cells ha;have UQ:=hR.own.each.own j u _ hu ha;obtain ⟨ua2,LX,rfl,-,abK⟩:=di UQ;have gC:=hR.own.row;rw [rh (by rw [bC,bC]) (by rw [bC];exact hj),bC] at gC;have g1:wr.cell? ⟨g0,j,none⟩=some (.slice ua2 a.length LX):=(gC.cellAt j (by omega)).trans hu;obtain ⟨-,r1,-⟩:=aR hR.dV;have hrx:[x]=[nY sh cs i].map λr=>r.getD j eW:=by simp [nY,List.getD,hs,hc,hx]
         have ZI:=hide (λ(g2 gcap:Nat) (w3:World) (h1:w3.ownsRow base 214 3 (.slice (some ⟨g2,0,none⟩) (a.length+1) gcap) (a.length+1) (bw a++nw x)) (h2:(wr.alloc (.cells #[.bool x.null,.int .i64 x.n,.string x.s] 214 (0,0))).drew.grownBy w3 (Value.slice ua2 a.length LX).ownBlock) (h3:(Value.slice ua2 a.length LX).ownBlock=some g2\/g2=wr.heap.size+1)=>jL.OX (hR.below (aJ (ag _ _))) (by rw [rh (by rw [bC,bC]) (by rw [bC];exact hj),bC]) hu ha (c:=x) (g:=g2) (gcap:=gcap) (w3:=w3) (o:=(.cells #[.bool x.null,.int .i64 x.n,.string x.s] 214 (0,0))) h1 h2 h3);rw [ER (by rw [hae];exact kz hjt) (by rw [hrx];exact kz hjt) (by rw [bC,bC])] at ZI;have OZ:=hide (λ(w3:World) (h2:(wr.alloc (.cells #[.bool x.null,.int .i64 x.n,.string x.s] 214 (0,0))).drew.grownBy w3 (Value.slice ua2 a.length LX).ownBlock)=>hR.seen (by rw [rh (by rw [bC,bC]) (by rw [bC];exact hj),bC]) hjt hu (w3:=w3) h2);have xD:=hide ((UQ.alloc (.cells #[.bool x.null,.int .i64 x.n,.string x.s] 214 (0,0))).drew);have yU:=hide (World.news_of_block (w:=(wr.alloc (.cells #[.bool x.null,.int .i64 x.n,.string x.s] 214 (0,0))).drew) (B:=wr.heap.size) (ai wr (.cells #[.bool x.null,.int .i64 x.n,.string x.s] 214 (0,0))));have hbs:base<=wr.heap.size:=by omega
         have sU:Hid ((wr.alloc (.cells #[.bool x.null,.int .i64 x.n,.string x.s] 214 (0,0))).drew.heap.size=wr.heap.size+1):=hide (by show (wr.heap.push _).size=_;rw [dq]);have as0:=(gC.lt g0 rfl).2;have ZU:=az hR.dV;have Vo:Hid (a.length+1<=maxLen):=hide (by unfold maxLen;omega);have Q9:Hid ((a.length+1)*32<=140737488355328):=hide (by omega);have IJ:Hid (base<=(wr.alloc (.cells #[.bool x.null,.int .i64 x.n,.string x.s] 214 (0,0))).drew.heap.size):=hide (by rw [ae sU];omega);clear gC hR UQ hu ha hae hrx hu' hx hc hs Yy vQ;clear HFF HR HSH Zg HSL HB HCM HMB HOV eI jg adP HT NV UM HNR hbs adQ hRl hRn abK kd ahJ hE hbg hog pJ qv Ey h0 h5 hm0 hm hs0 hi hj;go_wp2_with fail;go_region_law (refine step_append_lies _ rfl (.tmp 51) (.tmp 59) 198 rfl base 214 j0 _ 3 32 Tryz.underlying198 hj0 jz0 jz1 jz2 rfl (by decide) (.slice ua2 a.length LX) a.length (bw a) rfl (ae xD) ⟨wr.heap.size,0,none⟩ 1 1 (nw x) rfl rfl (ae yU) (V9 x) (by decide) (ae Vo) (ae Q9) (ae IJ) (wr.heap.size+1) (ae sU) ?_;intro g2 gcap w3 ld ja rV _;obtain ⟨⟨xx,d0⟩,fz,r3⟩:=ae OZ w3 ja;have Ez:=hide ld;have UI:=hide ja;have Bi:=hide rV;clear ld ja rV)
         all_goals
          have HJ3:=hide (ae ZI _ _ _ (ae Ez) (ae UI) (ae Bi)).1
          (try go_wp2_with fail)
          go_roundw
          case rel=>exact ⟨j+1,_,by omega,by go_num,HJ3⟩
          case measure=>simp [intOf];omega
       . obtain rfl:j=sh.length:=by omega
         have hR:=ae NV;have e9:nF (bX sh.length R') (bX sh.length [nY sh cs i]) sh.length=bX sh.length (R'++[nY sh cs i]):=by
          rw [<- Cy];unfold nF;rw [List.drop_of_length_le (by rw [bC];exact af _),bH,aP (by rw [pH (by rw [bC,bC]),bC];exact af _)]
         rw [e9] at hR;obtain ⟨-,-,r2⟩:=aR hR.dV;have rz:wr.frozen? ⟨r,2,none⟩=false:=by simp [World.frozen?,hR.dV]
         have hK:(R'.length:Int)+1<=1000:=by omega
         have HE:Hid (jL w2 (wr.setCell ⟨r,2,none⟩ (.int .i64 ((R'.length:Int)+1))) r base kv (.slice (some ⟨g0,0,none⟩) sh.length kV) vs vs2 (bX sh.length (R++ny F sh cs (i+1))) (R++ny F sh cs (i+1)).length):=hide (by
          have h8:=hR.count ((R'.length:Int)+1);rw [ae HNR,au];simpa using h8)
         clear e9 hR;go_wp2_with fail
         first
         |exact ⟨⟨i+1,vs2,cF,by go_num,HE⟩,by simp [intOf];omega⟩
         | (go_roundw
            case rel=>exact ⟨i+1,vs2,cF,by go_num,HE⟩
            case measure=>simp [intOf];omega)
  . obtain rfl:i=m:=by omega
    have HE:=hide ((ae Bj).from (ae jg) Ey);go_wp2_with fail;refine bodyPost_end (results_none rfl _ _ _) rfl ?_;exact ⟨rfl,EW,ae HE⟩
end Go.Proofs.YteniahoehoncjaaGreatDoor
