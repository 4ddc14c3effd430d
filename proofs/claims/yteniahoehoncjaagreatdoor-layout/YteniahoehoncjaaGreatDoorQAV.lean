import Derived.Test.YteniahoehoncjaaGreatDoorQAU
set_option maxHeartbeats 99999999
set_option maxRecDepth 100000
namespace Go.Proofs.YteniahoehoncjaaGreatDoor
open Go.RowKit
def fR (F:List aL->dQ)(sh:List Nat)(rows:List (List aL)):List (List aL):=(rows.filter λrow=>EY (F row)).map λrow=>sh.map λs=>row.getD s eW
theorem Aj (F:List aL->dQ)(sh:List Nat)(A B:List (List aL)):fR F sh (A++B)=fR F sh A++fR F sh B:=by unfold fR;rw [rN,fB]
theorem BG (F:List aL->dQ)(sh:List Nat)(A:List (List aL)):(fR F sh A).length<=A.length:=by unfold fR;rw [aW];exact jX _ _
theorem SH {n j ρ:Nat}{rows:List (List aL)}{row:List aL}(h:rows[ρ]?=some row)(hj:j<n):((bX n rows).getD j []).getD ρ eW=row.getD j eW:=by
 simp only [List.getD,kz hj,Option.getD_some,List.getElem?_map,h,Option.map_some]
theorem E1 {n ρ:Nat}{rows:List (List aL)}{row:List aL}(h:rows[ρ]?=some row)(hl:row.length=n):rowOf (bX n rows) ρ=row:=by
 apply cX;intro j;unfold rowOf;rw [a7];by_cases hj:j<n
 . rw [kz hj]
   simp [List.getD,h,List.getElem?_eq_getElem (show j<row.length by omega)]
 . rw [bp (by rw [bC];omega),bp (by omega)]
   rfl
theorem E2 {F:List aL->dQ}{sh:List Nat}{n:Nat}{rows:List (List aL)}(hl:∀r∈rows,r.length=n)(Dd:∀s∈sh,s<n):∀i,i<=rows.length->ny F sh (bX n rows) i=fR F sh (rows.take i)
 |0,_=>by simp [ny,fR]
 |i+1,hi=>by
   have hg:rows[i]?=some rows[i]:=ah (by omega);have hr:=E1 hg (hl _ (fG (by omega)));rw [EZ,E2 hl Dd i (by omega),dW,hg,Aj,hr];congr 1;have hv:nY sh (bX n rows) i=sh.map λs=>rows[i].getD s eW:=by
    unfold nY;exact ik (λs hs=>SH hg (Dd s hs))
   unfold fR;rw [hv];by_cases hk:EY (F rows[i])=true
   . simp [hk]
   . simp [hk]
theorem SI {F:List aL->dQ}{sh:List Nat}{n:Nat}{rows:List (List aL)}(hl:∀r∈rows,r.length=n)(Dd:∀s∈sh,s<n):ny F sh (bX n rows) rows.length=fR F sh rows:=by
 rw [E2 hl Dd _ (af _),fI]
theorem wJ (w:World)(o1 o2 o3:Obj):((w.alloc o1).alloc o2 |>.alloc o3).heap[w.heap.size]?=some o1/\((w.alloc o1).alloc o2 |>.alloc o3).heap[w.heap.size+1]?=some o2/\((w.alloc o1).alloc o2 |>.alloc o3).heap[w.heap.size+2]?=some o3:=by
 have s1:(w.alloc o1).heap.size=w.heap.size+1:=by simp
 have s2:((w.alloc o1).alloc o2).heap.size=w.heap.size+2:=by simp
 have e2:=ai (w.alloc o1) o2;have e3:=ai ((w.alloc o1).alloc o2) o3;rw [s1] at e2;rw [s2] at e3;exact ⟨(dX _ o3 (by omega)).trans ((dX _ o2 (by omega)).trans (ai w o1)),(dX _ o3 (by omega)).trans e2,e3⟩
section
variable {w1 wr w2:World} {r base:Nat} {kv cv:Value} {Dc vs vs2:List Value} {L L2:List (List aL)} {k k2:Int}
theorem jL.here (h:jL w1 wr r base kv cv Dc vs L k):jL wr wr r base kv cv vs vs L k:=⟨h.dV,h.own,λu hu _ hg=>.inl ⟨u,hu,hg⟩,aQ.refl _ _,h.Kd,h.EX,az h.dV⟩
theorem jL.abR (h:jL w1 wr r base kv cv Dc vs L k){b:Nat}(hb:lf r cv vs b):lf r cv Dc b\/w1.heap.size<=b:=by
 rcases hb with e|e|⟨u,hu,e⟩
 . exact .inl (.inl e)
 . exact .inl (.inr (.inl e))
 . exact (h.fresh u hu b e).imp (λ⟨u0,h1,h2⟩=>.inr (.inr ⟨u0,h1,h2⟩)) id
theorem jL.chain (h:jL w1 wr r base kv cv Dc vs L k)(h2:jL wr w2 r base kv cv vs vs2 L2 k2):jL w1 w2 r base kv cv Dc vs2 L2 k2:=
 ⟨h2.dV,h2.own,λu hu g hg=>by
  rcases h2.fresh u hu g hg with ⟨u1,h3,h4⟩|e
  . exact h.fresh u1 h3 g h4
  . exact .inr (aw h.keep.size e),h.keep.trans ⟨h2.keep.os,h2.keep.tape,h2.keep.output,h2.keep.size,λb hb=>h2.keep.block b ⟨aF hb.1 h.keep.size,λhs=>by
    rcases h.abR hs with e|e
    . exact hb.2 e
    . exact absurd hb.1 (by omega)⟩⟩,h2.Kd,h2.EX,h.lr⟩
end
theorem jL.inside {w1 wr:World}{r base:Nat}{kv cv:Value}{Dc vs:List Value}{L:List (List aL)}{k:Int}(h:jL w1 wr r base kv cv Dc vs L k)(hr:base<=r){b:Nat}(hb:lf r cv vs b):base<=b/\b<wr.heap.size:=by
 rcases hb with rfl|e|⟨u,hu,e⟩
 . exact ⟨hr,az h.dV⟩
 . exact h.own.row.lt b e
 . obtain ⟨i,hi⟩:=cm hu
   exact h.own.each.lt hi e
theorem oH.away {w:World}{B:Nat}{v:Value}{vs:List Value}{L:List (List aL)}{M:Nat->Prop}(h:oH w B v vs L)(hM:∀b,M b->b<B):fC M w v L:=
 ⟨λa n c hv hm=>by have:=(h.row.lt a.block (by rw [hv];rfl)).1;have:=hM _ hm;omega,vs,bF.jt h.row,λi c hi=>by
  obtain ⟨u,h1,h2⟩:=h.each.cells hi;exact ⟨u,h1,h2,λa n c hv hm=>by have:=(h.each.lt (g:=a.block) h1 (by rw [hv];rfl)).1;have:=hM _ hm;omega⟩⟩
theorem SJ {F:List aL->dQ}{sh:List Nat}{D c:List (List aL)}{f t:Nat}(ht:f<=t):fR F sh (D++c.take f)++fR F sh ((c.drop f).take (t - f))=fR F sh (D++c.take t):=by
 rw [<- Aj,bh];congr 2;rw [show t=f+(t - f) by omega,List.take_add];congr 2;omega
theorem LY:∀{Cs:List (List (List aL))},(∀d∈Cs,0<d.length)->Cs.length<=Cs.flatten.length
 |[],_=>by simp
 |d::l,h=>by
   have h1:=LY (λx hx=>h x (dY _ hx));have h2:=h d (dL ..);rw [List.flatten_cons,au,aY];omega
theorem lF.count {S:Nat}{Cs:List (List (List aL))}(h:lF S Cs):Cs.length<=Cs.flatten.length:=LY (λd hd=>by obtain ⟨i,hi⟩:=cm hd;exact (h i d hi).1)
theorem BH {wr:World}{b:Nat}{t:TypeId}{a0 a1 a2 x y z:Value}(h:wr.heap[b]?=some (.cells #[a0,a1,a2] t (0,0))):(((wr.setCell ⟨b,0,none⟩ x).setCell ⟨b,1,none⟩ y).setCell ⟨b,2,none⟩ z).heap[b]?=some (.cells #[x,y,z] t (0,0)):=
 aO _ b 2 _ _ z (aO _ b 1 _ _ y (aO _ b 0 _ _ x h))
theorem uE {wr:World}{b k:Nat}{x y z:Value}(h:k≠b):(((wr.setCell ⟨b,0,none⟩ x).setCell ⟨b,1,none⟩ y).setCell ⟨b,2,none⟩ z).heap[k]?=wr.heap[k]?:=
 (aD _ _ _ _ h).trans ((aD _ _ _ _ h).trans (aD _ _ _ _ h))
structure gT (W wr:World)(r g0 n:Nat)(kv:Value)(cols:List cU):Prop where
 dV:wr.heap[r]?=some (.cells #[kv,.slice (some ⟨g0,0,none⟩) n n,.int .i64 0] 150 (0,0))
 own:wr.ownsRow W.heap.size 198 1 (.slice (some ⟨g0,0,none⟩) n n) n (List.replicate n pF)
 kvo:wr.ownsRow W.heap.size 191 2 kv cols.length (cols.flatMap pV)
 off:kv.ownBlock≠some r/\kv.ownBlock≠some g0
 low:Below W.heap.size W wr
 apart:g0≠r
 hr:W.heap.size<=r
theorem gT.OX {W wr:World}{r g0 n:Nat}{kv:Value}{cols:List cU}(h:gT W wr r g0 n kv cols){c:cU}{o:Obj}{w3:World}{g gcap:Nat}
 (br:w3.ownsRow W.heap.size 191 2 (.slice (some ⟨g,0,none⟩) (cols.length+1) gcap) (cols.length+1) (cols.flatMap pV++pV c)) (hg:(wr.alloc o).drew.grownBy w3 kv.ownBlock) (hb:kv.ownBlock=some g\/g=wr.heap.size+1) :
 gT W (w3.setCell ⟨r,0,none⟩ (.slice (some ⟨g,0,none⟩) (cols.length+1) gcap)) r g0 n (.slice (some ⟨g,0,none⟩) (cols.length+1) gcap) (cols++[c])/\w3.heap[r]?=some (.cells #[kv,.slice (some ⟨g0,0,none⟩) n n,.int .i64 0] 150 (0,0)):=by
 have kX:Below wr.heap.size wr (wr.alloc o).drew:=aJ ((ag _ _).alloc (af _) _);have hz:(wr.alloc o).drew.heap.size=wr.heap.size+1:=by show (wr.heap.push _).size=_;rw [dq]
 have Ey:=az h.dV;have IG:=(h.own.lt g0 rfl).2;have bW:w3.heap[r]?=some (.cells #[kv,.slice (some ⟨g0,0,none⟩) n n,.int .i64 0] 150 (0,0)):=(hg.block r (by omega) (λe=>h.off.1 e.symm)).trans ((kX.block r Ey).trans h.dV);have iu:g≠r:=by
  rcases hb with e|e
  . intro e2;exact h.off.1 (by rw [e,e2])
  . omega
 have tu:g≠g0:=by
  rcases hb with e|e
  . intro e2;exact h.off.2 (by rw [e,e2])
  . omega
 have Q8:=grownBy_setCell w3 ⟨r,0,none⟩ (.slice (some ⟨g,0,none⟩) (cols.length+1) gcap);refine ⟨⟨aO w3 r 0 _ _ _ bW,dJ (dJ (du h.own kX) hg (λk hk e=>by cases e;exact h.off.2 hk)) Q8 (λk hk e=>by cases e;cases hk;exact h.apart rfl),?_,⟨λe=>iu (aS e),λe=>tu (aS e)⟩,?_,h.apart,h.hr⟩,bW⟩
 . rw [au,eM,List.flatMap_singleton]
   exact dJ br Q8 (λk hk e=>by cases e;cases hk;exact iu rfl)
 . have kd:=h.low.size
   exact ((h.low.trans (kX.mono kd)).grown hg (by omega) (λk hk=>(h.kvo.lt k hk).1)).setCell (p:=⟨r,0,none⟩) h.hr _
theorem gT.seen {W wr:World}{r g0 n:Nat}{kv:Value}{cols:List cU}(h:gT W wr r g0 n kv cols){o:Obj}{w3:World}(hg:(wr.alloc o).drew.grownBy w3 kv.ownBlock):w3.cell? ⟨r,0,none⟩=some kv/\w3.frozen? ⟨r,0,none⟩=false:=by
 have kX:Below wr.heap.size wr (wr.alloc o).drew:=aJ ((ag _ _).alloc (af _) _);have hz:(wr.alloc o).drew.heap.size=wr.heap.size+1:=by show (wr.heap.push _).size=_;rw [dq]
 have bW:=(hg.block r (by have:=az h.dV;omega) (λe=>h.off.1 e.symm)).trans ((kX.block r (az h.dV)).trans h.dV);exact ⟨(aR bW).1,by simp [World.frozen?,bW]⟩
theorem gT.rows {W wr:World}{r g0 n:Nat}{kv:Value}{cols:List cU}(h:gT W wr r g0 n kv cols):jL wr wr r W.heap.size kv (.slice (some ⟨g0,0,none⟩) n n) (List.replicate n pF) (List.replicate n pF) (bX n []) 0:=by
 have E3:∀(i:Nat) (u:Value),(List.replicate n pF)[i]?=some u->u=pF:=λi u hu=>(lJ.mp (aG hu)).2;refine ⟨h.dV,⟨by rw [bC];exact h.own,⟨by simp [bC],λi u c h1 h2=>?_,λi j u u' g _ h1 _ hg=>?_⟩,λi u g h1 hg=>?_⟩,λu hu g hg=>.inl ⟨u,hu,hg⟩,aQ.refl _ _,λe=>h.apart (aS e),λu hu e=>?_,az h.dV⟩
 . obtain ⟨-,rfl⟩:=ET h2
   rw [E3 i u h1];exact ⟨rfl,.inl ⟨rfl,rfl⟩⟩
 . rw [E3 i u h1] at hg;cases hg
 . rw [E3 i u h1] at hg;cases hg
 . rw [(lJ.mp hu).2] at e;cases e
theorem Ra (c:cU):∀u∈pV c,u.oneCell'=true:=by
 intro u hu;simp [pV] at hu;rcases hu with rfl|rfl<;>rfl
theorem Tryz.LZ:(Tryz.prog.info? 191).map (λi=>(i.zero,i.size,i.bytes))=some (some (.agg #[.string ⟨#[]⟩,.int .i64 0]),2,24):=by kernel_rfl
theorem Kf {a w:World}{lo q:Nat}{n:Int}{cols:List cU}{cv sv Gw wv:Value}{vs:List Value}{Cs:List (List (List aL))}{sh:List Nat}{ok:List aL->Prop}{F:List aL->dQ}(o:rO)(ht:w.heap[q]?=some (.cells #[cv,sv,.int .i64 n] 194 (0,0)))
 (N2:gq w cv cols) (hsv:bF w 1 sv Cs.length vs) (adR:sJ w cols vs Cs) (IC:lF o.seg Cs) (uA:jh cols Cs.flatten) (hN:Cs.flatten.length<=64) (Ev:0<cols.length) (UK:cols.length<=5)
 (Dd:kF w Gw sh) (E0:∀s∈sh,s<cols.length) (hs0:0<sh.length) (hs5:sh.length<=5) (hw:ef a lo wv ok F) (nQ:jy lo a.heap.size a w) (hF:∀row,ok row->∀c,F row=.inl c->tg c) (kW:∀row∈Cs.flatten,ok row) :
 Calls Tryz.prog 63 #[.agg #[.pointer (some ⟨q,0,none⟩),Gw,wv],.agg (SC o).toArray] w λe w'=>∃kv bv,e=.returned (.agg #[kv,bv,.int .i64 (fR F sh Cs.flatten).length])/\gq w' kv (sh.map λs=>cols.getD s default)/\gQ (λb=>b<w.heap.size) kv/\fC (λb=>b<w.heap.size) w' bv (bX sh.length (fR F sh Cs.flatten))/\Below w.heap.size w w':=by
 obtain ⟨i0,yv,jS,jD,jv⟩:=lE Tryz.pG;obtain ⟨ca,kV,rfl⟩:=N2.slice;obtain ⟨sa,mb,rfl⟩:=hsv.slice;obtain ⟨sha,IK,rfl⟩:=bF.slice Dd;have hw':=hw;obtain ⟨fn,iJ,rfl,hE,-⟩:=hw';have L0:=hide (λwr (h:Below w.heap.size w wr)=>(show (wr.cell? ⟨q,0,none⟩=some (.slice ca cols.length kV)/\wr.cell? ⟨q,1,none⟩=some (.slice sa Cs.length mb)/\wr.cell? ⟨q,2,none⟩=some (.int .i64 n))/\gq wr (.slice ca cols.length kV) cols/\bF wr 1 (.slice sa Cs.length mb) Cs.length vs/\sJ wr cols vs Cs/\kF wr (.slice sha sh.length IK) sh/\jy lo a.heap.size a wr from
  ⟨aR ((h.block q (az ht)).trans ht),N2.below h (af _),bF.below hsv h (af _),⟨adR.1,λi u c h1 h2=>by obtain ⟨ss,h3,h4⟩:=adR.2 i u c h1 h2;exact ⟨ss,bF.below h3 h (af _),h4⟩⟩,bF.below Dd h (af _),nQ.below h⟩))
 have adS:=hide E0;have G9:=hide uA;have HCH:=hide IC;have HWK:=hide hw;have HFB:=hide hF;have R9:=hide kW;have hlq:=az ht;have hCl:=aw IC.count hN;clear ht N2 hsv adR Dd nQ hw hF kW E0 uA IC;unfold SC;obtain ⟨W,hW⟩:∃W,W=((w.alloc (.cells #[.pointer (some ⟨q,0,none⟩),.slice sha sh.length IK,.func (.func fn) #[] iJ] 141)).alloc (.cells #[.int .i64 o.seg,.int .i64 o.pk,.int .i64 o.wd,.bool o.prune,.bool o.push,.int .i64 o.bud] 50)).alloc (.cells #[.slice none 0 0,.slice none 0 0,.int .i64 0] 150):=⟨_,rfl⟩;have lK:Below w.heap.size w W:=by rw [hW];exact (((ag _ _).alloc (af _) _).alloc (by simp) _).alloc (by simp;omega) _
 have za:W.heap.size=w.heap.size+3:=by rw [hW];simp
 have fN:W.heap[w.heap.size]?=some (.cells #[.pointer (some ⟨q,0,none⟩),.slice sha sh.length IK,.func (.func fn) #[] iJ] 141 (0,0))/\W.heap[w.heap.size+1]?=some (.cells #[.int .i64 o.seg,.int .i64 o.pk,.int .i64 o.wd,.bool o.prune,.bool o.push,.int .i64 o.bud] 50 (0,0))/\W.heap[w.heap.size+2]?=some (.cells #[.slice none 0 0,.slice none 0 0,.int .i64 0] 150 (0,0)):=by
  rw [hW];exact wJ w _ _ _
 have HW:=hide hW;have oD:=hide lK;have L7:=hide fN;have sU:=hide za;clear hW lK fN za;go_enter Tryz.func63,Tryz.ntmps63;go_wp2_with (at_make;(try rw [<- ae HW]);refine dw _ rfl _ _ 148 rfl W.heap.size 198 i0 _ 1 Tryz.underlying148 yv jS jD _ _ _ _ sh.length rfl rfl rfl rfl (by rw [jv];omega) (by unfold maxLen;omega) (by simp) ?_;intro w1 br bE;have hlw:w.heap.size<w1.heap.size:=az ((bE.block _ (by rw [ae sU];omega) (by simp)).trans (ae L7).1);obtain ⟨x0,x1,x2⟩:=aR ((bE.block _ (by rw [ae sU];omega) (by simp)).trans (ae L7).1));have Rb:Hid (gT W (w1.alloc (.cells #[.slice none 0 0,.slice (some ⟨W.heap.size,0,none⟩) sh.length sh.length,.int .i64 0] 150)) w1.heap.size W.heap.size sh.length (.slice none 0 0) []):=hide (by
  rw [kK,qQ] at br;have hg:=(br.lt W.heap.size rfl).2;exact ⟨ai w1 _,br.alloc _,⟨rfl,.inl ⟨rfl,rfl⟩⟩,⟨by simp [Value.ownBlock],by simp [Value.ownBlock]⟩,((ag _ _).grown bE (af _) (by simp)).alloc (eH hg) _,vh hg,eH hg⟩)
 have E4:=hide (λwr (h:Below W.heap.size W wr)=>(show (wr.cell? ⟨w.heap.size,0,none⟩=some (.pointer (some ⟨q,0,none⟩))/\wr.cell? ⟨w.heap.size,1,none⟩=some (.slice sha sh.length IK)/\wr.cell? ⟨w.heap.size,2,none⟩=some (.func (.func fn) #[] iJ))/\wr.heap[w.heap.size+1]?=some (.cells #[.int .i64 o.seg,.int .i64 o.pk,.int .i64 o.wd,.bool o.prune,.bool o.push,.int .i64 o.bud] 50 (0,0))/\wr.heap[w.heap.size+2]?=some (.cells #[.slice none 0 0,.slice none 0 0,.int .i64 0] 150 (0,0))/\Below w.heap.size w wr from by
  have hz:=ae sU;exact ⟨aR ((h.block _ (by omega)).trans (ae L7).1),(h.block _ (by omega)).trans (ae L7).2.1,(h.block _ (by omega)).trans (ae L7).2.2,(ae oD).trans (h.mono (by omega))⟩))
 obtain ⟨j0,hj0,jz0,jz1,jz2⟩:=lE Tryz.LZ;clear br bE yv jS jD jv x0 x1 x2 hlw;go_loopw [23] (λc wr=>∃(i:Nat) (kv:Value),i<=sh.length/\c=.int .i64 i/\Hid (gT W wr w1.heap.size W.heap.size sh.length kv ((sh.map λs=>cols.getD s default).take i))) (λc _=>sh.length - (intOf c).toNat)
 case atStart=>exact ⟨0,_,aN _,rfl,by rw [ll];exact Rb⟩
 case round=>
  obtain ⟨i,kv,hi,rfl,QY⟩:=hrel;by_cases cF:i<sh.length
  . have jI:(i:Int)<sh.length:=by omega
    have hA:=ae QY;obtain ⟨⟨v0,v1,v2⟩,-,-,nG⟩:=ae E4 wr hA.low;obtain ⟨⟨t0,t1,t2⟩,Bo,-,-,hir,-⟩:=ae L0 wr nG;obtain ⟨s,hs⟩:∃s,sh[i]?=some s:=⟨_,ah cF⟩;have hsl:=ae adS s (aG hs);have am1:(s:Int)<cols.length:=by omega
    obtain ⟨sg,so,VZ,he,s0⟩:=kF.get hir hs
    cases he
    obtain ⟨c,hc⟩:∃c,cols[s]?=some c:=⟨_,ah hsl⟩;obtain ⟨cg,co,LW,he,c0,c1⟩:=gq.get Bo hc
    cases he
    have nS:(sh.map λs=>cols.getD s default).take (i+1)=(sh.map λs=>cols.getD s default).take i++[c]:=by
     rw [dW,a7,hs];simp [List.getD,hc]
    have SK:((sh.map λs=>cols.getD s default).take i).length=i:=by rw [bV,aW];omega
    obtain ⟨cl,vQ⟩:∃cl,cl=(sh.map λs=>cols.getD s default).take i:=⟨_,rfl⟩;rw [<- vQ] at nS SK hA;have adU:=hA.kvo;obtain ⟨ka,iG,rfl,-,-⟩:=di adU;obtain ⟨r0,-,-⟩:=aR hA.dV;have Ey:=az hA.dV;have ph:=hA.low.size;have xD:=hide ((adU.alloc (.cells #[.string c.1,.int .i64 c.2] 191 (0,0))).drew);have yU:=hide (World.news_of_block (w:=(wr.alloc (.cells #[.string c.1,.int .i64 c.2] 191 (0,0))).drew) (B:=wr.heap.size) (ai wr (.cells #[.string c.1,.int .i64 c.2] 191 (0,0))));have HZ1:Hid ((wr.alloc (.cells #[.string c.1,.int .i64 c.2] 191 (0,0))).drew.heap.size=wr.heap.size+1):=hide (by show (wr.heap.push _).size=_;rw [dq]);have OZ:=hide (λ(w3:World) (h2:(wr.alloc (.cells #[.string c.1,.int .i64 c.2] 191 (0,0))).drew.grownBy w3 (Value.slice ka cl.length iG).ownBlock)=>hA.seen h2);have ZI:=hide (λ(g gcap:Nat) (w3:World) (h1:w3.ownsRow W.heap.size 191 2 (.slice (some ⟨g,0,none⟩) (cl.length+1) gcap) (cl.length+1) (cl.flatMap pV++pV c)) (h2:(wr.alloc (.cells #[.string c.1,.int .i64 c.2] 191 (0,0))).drew.grownBy w3 (Value.slice ka cl.length iG).ownBlock) (h3:(Value.slice ka cl.length iG).ownBlock=some g\/g=wr.heap.size+1)=>(hA.OX h1 h2 h3).1);rw [<- nS] at ZI;have Vo:Hid (cl.length+1<=maxLen):=hide (by rw [SK];unfold maxLen;omega);have Q9:Hid ((cl.length+1)*24<=140737488355328):=hide (by rw [SK];omega);have IJ:Hid (W.heap.size<=(wr.alloc (.cells #[.string c.1,.int .i64 c.2] 191 (0,0))).drew.heap.size):=hide (by rw [ae HZ1];omega);clear hA Bo hir hs hc nS SK vQ adU;go_wp2_with fail;go_region_law (refine step_append_lies _ rfl (.tmp 28) (.tmp 37) 146 rfl W.heap.size 191 j0 _ 2 24 Tryz.underlying146 hj0 jz0 jz1 jz2 rfl (by decide) (.slice ka cl.length iG) cl.length (cl.flatMap pV) rfl (ae xD) ⟨wr.heap.size,0,none⟩ 1 1 (pV c) rfl rfl (ae yU) (Ra c) (by decide) (ae Vo) (ae Q9) (ae IJ) (wr.heap.size+1) (ae HZ1) ?_;intro g gcap w3 ld ja rV _;obtain ⟨d0,fz⟩:=ae OZ w3 ja;have Ez:=hide ld;have UI:=hide ja;have Bi:=hide rV;clear ld ja rV)
    all_goals
     have HJ3:=hide (ae ZI _ _ _ (ae Ez) (ae UI) (ae Bi))
     (try go_wp2_with fail)
     go_roundw
     case rel=>exact ⟨i+1,_,by omega,by go_num,HJ3⟩
     case measure=>simp [intOf];omega
  . obtain rfl:i=sh.length:=by omega
    have hA:=ae QY;rw [aP (by rw [aW];exact af _)] at hA;obtain ⟨⟨v0,v1,v2⟩,-,-,nG⟩:=ae E4 wr hA.low;obtain ⟨⟨t0,t1,t2⟩,-⟩:=ae L0 wr nG;obtain ⟨wA,hwA⟩:∃wA,wA=wr:=⟨_,rfl⟩;have GU:Hid (jL wA wr w1.heap.size W.heap.size kv (.slice (some ⟨W.heap.size,0,none⟩) sh.length sh.length) (List.replicate sh.length pF) (List.replicate sh.length pF) (bX sh.length (fR F sh (Cs.take 0).flatten)) (fR F sh (Cs.take 0).flatten).length):=hide (by rw [hwA];exact hA.rows);have HA:Hid (gT W wA w1.heap.size W.heap.size sh.length kv (sh.map λs=>cols.getD s default)):=hide (by rw [hwA];exact hA);have HLA:Hid (∀wx vs2 L2 k2,jL wA wx w1.heap.size W.heap.size kv (.slice (some ⟨W.heap.size,0,none⟩) sh.length sh.length) (List.replicate sh.length pF) vs2 L2 k2->Below W.heap.size W wx/\gq wx kv (sh.map λs=>cols.getD s default)):=hide (λwx vs2 L2 k2 h=>by
     have hA:=ae HA;have hnm:∀b,lf w1.heap.size (.slice (some ⟨W.heap.size,0,none⟩) sh.length sh.length) (List.replicate sh.length pF) b->W.heap.size<=b:=λb hb=>(hA.rows.inside hA.hr hb).1;have hwz:=hA.low.size;have hw:Below W.heap.size W wx:=⟨h.keep.os.trans hA.low.os,h.keep.tape.trans hA.low.tape,h.keep.output.trans hA.low.output,aw hwz h.keep.size,λb hb=>(h.keep.block b ⟨by omega,λhm=>by have:=hnm b hm;omega⟩).trans (hA.low.block b hb)⟩;refine ⟨hw,bF.moves (M:=lf w1.heap.size (.slice (some ⟨W.heap.size,0,none⟩) sh.length sh.length) (List.replicate sh.length pF)) (bF.jt hA.kvo) ?_ h.keep.size (λb hb hn=>h.keep.block b ⟨hb,hn⟩)⟩;intro p n c hv hm;have QM:kv.ownBlock=some p.block:=by rw [hv];rfl
     rcases hm with e|e|⟨u,hu,e⟩
     . exact hA.off.1 (by rw [QM,e])
     . have e2:W.heap.size=p.block:=aS e
       exact hA.off.2 (by rw [QM,e2])
     . rw [(lJ.mp hu).2] at e;cases e)
    have hrW:=hA.hr;obtain ⟨ka,iG,YI,-,-⟩:=di hA.kvo;have HKV:=hide YI;clear YI;clear hA nG QY hwA;go_wp2_with fail;go_loopw [47] (λc wr=>∃(i:Nat) (vs2:List Value),i<=Cs.length/\c=.int .i64 i/\Hid (jL wA wr w1.heap.size W.heap.size kv (.slice (some ⟨W.heap.size,0,none⟩) sh.length sh.length) (List.replicate sh.length pF) vs2 (bX sh.length (fR F sh (Cs.take i).flatten)) (fR F sh (Cs.take i).flatten).length)) (λc _=>Cs.length - (intOf c).toNat)
    case atStart=>exact ⟨0,_,aN _,rfl,GU⟩
    case round=>
     obtain ⟨i,vs2,hi,rfl,Bj⟩:=hrel;by_cases cF:i<Cs.length
     . have jI:(i:Int)<Cs.length:=by omega
       obtain ⟨c,kM⟩:∃c,Cs[i]?=some c:=⟨_,ah cF⟩;have sS:=aG kM;obtain ⟨adX,am8,-⟩:=ae HCH i c kM;obtain ⟨D,hD⟩:∃D,D=(Cs.take i).flatten:=⟨_,rfl⟩;have HD1:Hid ((Cs.take (i+1)).flatten=D++c):=hide (by rw [dW,kM,hD];simp);have hDl:D.length+c.length<=64:=by
        have e:=aU List.length (ae HD1);have h2:(Cs.take (i+1)).flatten.length<=Cs.flatten.length:=by
         conv=>rhs;rw [<- ml (i+1) Cs]
         rw [il,au];omega
        rw [au] at e;omega
       have HCM:Hid (∀row∈c,row∈Cs.flatten):=hide (λrow hr=>List.mem_flatten.mpr ⟨c,sS,hr⟩);rw [<- hD] at Bj;have hR:=ae Bj;obtain ⟨Ak,-⟩:=ae HLA wr _ _ _ hR;obtain ⟨-,-,-,nG⟩:=ae E4 wr Ak;obtain ⟨-,-,hsr,hsg,-⟩:=ae L0 wr nG;obtain ⟨u,hu⟩:∃u,vs[i]?=some u:=⟨_,ah (by rw [hsg.1];exact cF)⟩;obtain ⟨sg,so,VZ,he,-,-,hx⟩:=hsr.at (by omega)
       cases he
       have s0:=hx i u hu;obtain ⟨ss,DJ,iP⟩:=hsg.2 i u c hu kM;have hsl:ss.length<=1000:=by have:=iP.1;rw [aW] at this;omega
       have ZN:=hide (Aa DJ iP hsl);clear hR Ak nG hsr hsg hx DJ iP sS kM hD v0 v1 v2 t0 t1 t2 hu;go_wp2_with fail;refine (ae ZN).mono ?_;rintro e w2 ⟨rv,vsr,rfl,Zd,bO⟩;have mC:=λb (hb:lf w1.heap.size (.slice (some ⟨W.heap.size,0,none⟩) sh.length sh.length) vs2 b)=>(ae Bj).inside hrW hb;have xY:=hide ((ae Bj).below bO);have Sn:=hide (Zd.away (λb hb=>(mC b hb).2));obtain ⟨rg,ro,Ad,u0,he,-,r0,hu0⟩:=Zd.batch.OQ (kz (R:=c) Ev);rw [bC] at he;subst he;obtain ⟨ua,td,he⟩:=bF.slice hu0;rw [aW] at he;subst he;rw [iY] at r0;have amI:(0:Int)<cols.length:=by omega
       clear Zd bO mC hu0 ZN Bj;go_wp2_with fail;go_loopw [12] (λc' wr=>∃(f:Nat) (O1:List Value),f<=c.length+16/\c'=.int .i64 f/\Hid (jL wA wr w1.heap.size W.heap.size kv (.slice (some ⟨W.heap.size,0,none⟩) sh.length sh.length) (List.replicate sh.length pF) O1 (bX sh.length (fR F sh (D++c.take f))) (fR F sh (D++c.take f)).length)/\Hid (fC (lf w1.heap.size (.slice (some ⟨W.heap.size,0,none⟩) sh.length sh.length) O1) wr (.slice (some ⟨rg,ro,none⟩) cols.length Ad) (bX cols.length c))) (λc' _=>c.length - (intOf c').toNat)
       case atStart=>exact ⟨0,vs2,by omega,rfl,by rw [ll,bH];exact xY,Sn⟩
       case round=>
        obtain ⟨f,O1,hf,rfl,NV,HBJ⟩:=hrel;have hR:=ae NV;obtain ⟨Ak,-⟩:=ae HLA wr _ _ _ hR;obtain ⟨⟨v0,v1,v2⟩,nx,-,nG⟩:=ae E4 wr Ak;have o2:wr.cell? ⟨w.heap.size+1,2,none⟩=some (.int .i64 o.wd):=by simp [World.cell?,nx]
        by_cases hft:f<c.length
        . have am9:(f:Int)<c.length:=by omega
          have o9:=o.w1;have as4:=o.w16;have mC:=λb (hb:lf w1.heap.size (.slice (some ⟨W.heap.size,0,none⟩) sh.length sh.length) O1 b)=>hR.inside hrW hb;have HPT:=hide (λ(t:Nat) (tv:Int) (htv:tv=t) (h1:f<t) (h2:t<=c.length)=>(show Calls Tryz.prog 86 #[.slice (some ⟨rg,ro,none⟩) cols.length Ad,.int .i64 f,.int .i64 tv] wr.drew (λr w'=>∃v,r=.returned v/\fC (lf w1.heap.size (.slice (some ⟨W.heap.size,0,none⟩) sh.length sh.length) O1) w' v (Bz f t (bX cols.length c))/\Below wr.drew.heap.size wr.drew w') from by
           subst htv;exact ZV (M:=lf w1.heap.size (.slice (some ⟨W.heap.size,0,none⟩) sh.length sh.length) O1) (w:=wr.drew) (λb hb=>(mC b hb).2) ((ae HBJ).kept (w':=wr.drew) (af _) (λ_ _ _=>rfl)) h1 (λx hx=>by rw [mI hx];exact h2) (by rw [bC];omega)))
          have HRB:=hide (λ(t:Nat) (h1:f<t) (h2:t<=c.length) (h3:t<=f+16) (w3:World) (bv:Value) (eD:Below wr.heap.size wr w3) (hba:fC (lf w1.heap.size (.slice (some ⟨W.heap.size,0,none⟩) sh.length sh.length) O1) w3 bv (Bz f t (bX cols.length c)))=>(show Calls Tryz.prog 85 #[.agg #[.pointer (some ⟨q,0,none⟩),.slice sha sh.length IK,.func (.func fn) #[] iJ],.pointer (some ⟨w1.heap.size,0,none⟩),bv] w3 (λe w'=>e=.returned (.tuple #[])/\∃Bk,jL w3 w' w1.heap.size W.heap.size kv (.slice (some ⟨W.heap.size,0,none⟩) sh.length sh.length) O1 Bk (bX sh.length (fR F sh (D++c.take t))) (fR F sh (D++c.take t)).length) from by
           have vM:=(ae NV).below eD;obtain ⟨ZW,-⟩:=ae HLA w3 _ _ _ vM;obtain ⟨-,-,-,hl3⟩:=ae E4 w3 ZW;obtain ⟨-,-,-,-,hi3,tq⟩:=ae L0 w3 hl3;rw [EU] at hba;have QP:((c.drop f).take (t - f)).length=t - f:=by rw [bV,cu];omega
           have hpm:∀row∈(c.drop f).take (t - f),row∈Cs.flatten:=λrow hr=>ae HCM row (jb (fx hr));have hlen:∀row∈(c.drop f).take (t - f),row.length=cols.length:=λrow hr=>(ae G9 row (hpm row hr)).1;have Ou:(fR F sh (D++c.take f)).length<=64:=aw (BG _ _ _) (by rw [au,bV];omega);have hm:=Hf (m:=t - f) (q:=q) (ae HWK) tq (ae HFB) hi3 (λp n' c' hv hm=>by
            have h7:=(vM.inside hrW hm).1;obtain ⟨-,-,-,-,hiw,-⟩:=ae L0 w (ag _ _);have h8:=bF.inside hiw hs0 _ _ _ hv;have h9:=ae sU;omega) (by rw [bC];exact ae adS) hs0 hs5 hba (λx hx=>by rw [mI hx,QP]) (by rw [bC];exact Ev) (by rw [bC];exact UK) (by omega) (by omega) (λρ hρ=>by
            have hg:((c.drop f).take (t - f))[ρ]?=some (((c.drop f).take (t - f))[ρ]'(by omega)):=ah _;have oy:=aG hg;rw [E1 hg (hlen _ oy)];exact ae R9 _ (hpm _ oy)) vM.here (by omega) (by have:=ZW.size;omega)
           have e1:ny F sh (bX cols.length ((c.drop f).take (t - f))) (t - f)=fR F sh ((c.drop f).take (t - f)):=by
            have:=SI (F:=F) hlen (ae adS);rw [QP] at this;exact this
           rw [e1,SJ (by omega)] at hm;exact hm))
          have UU:=hide (λ(t:Nat) (w3 w4:World) (vs4:List Value) (eD:Below wr.heap.size wr w3) (h4:jL w3 w4 w1.heap.size W.heap.size kv (.slice (some ⟨W.heap.size,0,none⟩) sh.length sh.length) O1 vs4 (bX sh.length (fR F sh (D++c.take t))) (fR F sh (D++c.take t)).length)=>(show jL wA w4 w1.heap.size W.heap.size kv (.slice (some ⟨W.heap.size,0,none⟩) sh.length sh.length) (List.replicate sh.length pF) vs4 (bX sh.length (fR F sh (D++c.take t))) (fR F sh (D++c.take t)).length/\fC (lf w1.heap.size (.slice (some ⟨W.heap.size,0,none⟩) sh.length sh.length) vs4) w4 (.slice (some ⟨rg,ro,none⟩) cols.length Ad) (bX cols.length c)/\w4.cell? ⟨w.heap.size+1,2,none⟩=some (.int .i64 o.wd) from by
           have vM:=(ae NV).below eD;have IC:=vM.chain h4;obtain ⟨ana,-⟩:=ae HLA w4 _ _ _ IC;obtain ⟨-,anb,-,-⟩:=ae E4 w4 ana;have bL:=(ae HBJ).kept (w':=w3) eD.size (λb hb _=>eD.block b hb);have hcp:∀x∈bX cols.length c,0<x.length:=λx hx=>by rw [mI hx];exact adX
           have YJ:0<(bX cols.length c).length:=by rw [bC];exact Ev
           have bO:=(bL.weaken (M':=λb=>lf w1.heap.size (.slice (some ⟨W.heap.size,0,none⟩) sh.length sh.length) O1 b\/w3.heap.size<=b) (λb hb=>hb) YJ hcp).kept (w':=w4) h4.keep.size (λb hb hn=>h4.keep.block b ⟨hb,λhs=>hn (.inl hs)⟩);exact ⟨IC,bO.weaken (λb hb=>.inl (h4.abR hb)) YJ hcp,by simp [World.cell?,anb]⟩))
          have ZX:=hide (λ(w3:World) (eD:Below wr.heap.size wr w3)=>(show w3.cell? ⟨w.heap.size,0,none⟩=some (.pointer (some ⟨q,0,none⟩))/\w3.cell? ⟨w.heap.size,1,none⟩=some (.slice sha sh.length IK)/\w3.cell? ⟨w.heap.size,2,none⟩=some (.func (.func fn) #[] iJ) from by
           obtain ⟨ZW,-⟩:=ae HLA w3 _ _ _ ((ae NV).below eD);exact (ae E4 w3 ZW).1))
          clear hR Ak nG nx mC;have uf:IntKind.i64.wrap ((f:Int)+o.wd)=(f:Int)+o.wd:=by rw [IntKind.wrap_i64];omega
          have adE:(f+o.wd<=c.length/\((f:Int)+o.wd<=c.length))\/(c.length<f+o.wd/\((c.length:Int)<(f:Int)+o.wd)):=by omega
          rcases adE with ⟨hmn,Cx⟩|⟨hmn,Cx⟩
          case' inl=>
           have HP:=hide (ae HPT (f+o.wd) ((f:Int)+o.wd) (by simp) (by omega) hmn);have HQ:=hide (ae HRB (f+o.wd) (by omega) hmn (by omega));have HG:=hide (ae UU (f+o.wd));have HMV:Hid ((if (c.length:Int)<IntKind.i64.wrap ((f:Int)+o.wd) then (c.length:Int) else IntKind.i64.wrap ((f:Int)+o.wd))=(f:Int)+o.wd):=hide (by rw [uf,aA (by omega)])
          case' inr=>
           have HP:=hide (ae HPT c.length c.length rfl (by omega) (af _));have HQ:=hide (ae HRB c.length (by omega) (af _) (by omega));have HG:=hide (ae UU c.length);have HMV:Hid ((if (c.length:Int)<IntKind.i64.wrap ((f:Int)+o.wd) then (c.length:Int) else IntKind.i64.wrap ((f:Int)+o.wd))=(c.length:Int)):=hide (by rw [uf,aH (by omega)]);have e9:c.take c.length=c.take (f+o.wd):=by rw [fI,aP (by omega)]
           rw [e9] at HG HQ;clear e9
          all_goals
           clear HPT HRB UU uf hmn Cx;go_wp2_with fail;go_region_with (first
            | (go_at_call 86;rw [ae HMV];refine (ae HP).mono ?_;rintro e w3 ⟨bv,rfl,hba,eD⟩;have px:=hide ((aJ (ag wr.heap.size wr)).trans eD);have anc:=hide hba;obtain ⟨x0,x1,x2⟩:=ae ZX w3 (ae px);clear hba eD)
            | (go_at_call 85;refine (ae HQ w3 bv (ae px) (ae anc)).mono ?_;rintro e w4 ⟨rfl,vs4,h4⟩;obtain ⟨C5,qF,z2⟩:=ae HG w3 w4 vs4 (ae px) h4;have HG1:=hide C5;have HG2:=hide qF;clear C5 qF h4))
           all_goals
            (try go_wp2_with fail)
            exact ⟨⟨f+o.wd,vs4,by omega,by simp,HG1,HG2⟩,by simp [intOf];omega⟩
        . have am9:¬(f:Int)<c.length:=by omega
          have HE:Hid (jL wA wr w1.heap.size W.heap.size kv (.slice (some ⟨W.heap.size,0,none⟩) sh.length sh.length) (List.replicate sh.length pF) O1 (bX sh.length (fR F sh (Cs.take (i+1)).flatten)) (fR F sh (Cs.take (i+1)).flatten).length):=hide (by
           rw [ae HD1];rw [aP (by omega)] at hR;exact hR)
          clear hR Ak nG nx;go_wp2_with fail
          first
          |exact ⟨⟨i+1,O1,cF,by go_num,HE⟩,by simp [intOf];omega⟩
          | (go_roundw
             case rel=>exact ⟨i+1,O1,cF,by go_num,HE⟩
             case measure=>simp [intOf];omega)
     . obtain rfl:i=Cs.length:=by omega
       have hR:=ae Bj;rw [fI] at hR;obtain ⟨Ak,hkc⟩:=ae HLA wr _ _ _ hR;obtain ⟨-,-,hrb,nG⟩:=ae E4 wr Ak;obtain ⟨y0,y1,y2⟩:=aR hR.dV;obtain ⟨b0,b1,b2⟩:=aR (show wr.heap[w.heap.size+1+1]?=_ from hrb);have f0:∀i,wr.frozen? ⟨w.heap.size+1+1,i,none⟩=false:=λi=>by simp [World.frozen?,show wr.heap[w.heap.size+1+1]?=_ from hrb]
       have E5:Hid (∀W9,W9=(((wr.setCell ⟨w.heap.size+1+1,0,none⟩ kv).setCell ⟨w.heap.size+1+1,1,none⟩ (.slice (some ⟨W.heap.size,0,none⟩) sh.length sh.length)).setCell ⟨w.heap.size+1+1,2,none⟩ (.int .i64 (fR F sh Cs.flatten).length))->(W9.cell? ⟨w.heap.size+1+1,0,none⟩=some kv/\W9.cell? ⟨w.heap.size+1+1,1,none⟩=some (.slice (some ⟨W.heap.size,0,none⟩) sh.length sh.length)/\W9.cell? ⟨w.heap.size+1+1,2,none⟩=some (.int .i64 (fR F sh Cs.flatten).length))/\gq W9 kv (sh.map λs=>cols.getD s default)/\gQ (λb=>b<w.heap.size) kv/\fC (λb=>b<w.heap.size) W9 (.slice (some ⟨W.heap.size,0,none⟩) sh.length sh.length) (bX sh.length (fR F sh Cs.flatten))/\Below w.heap.size w W9):=hide (by
        intro W9 e9;have hz:=ae sU;have hs9:wr.heap.size<=W9.heap.size:=by rw [e9];simp [World.setCell]
        have Lb:∀b,b<wr.heap.size->¬(b=w.heap.size+1+1)->W9.heap[b]?=wr.heap[b]?:=λb _ hb=>by rw [e9];exact uE hb
        refine ⟨aR (t:=150) (by rw [e9];exact BH hrb),bF.moves (M:=λb=>b=w.heap.size+1+1) hkc (λp n' c' hv hm=>?_) hs9 Lb,λp n' c' hv hm=>?_,((hR.own.away (M:=λb=>b<w.heap.size\/b=w.heap.size+1+1) (λb hb=>by omega)).kept hs9 (λb h1 h2=>Lb b h1 (λe=>h2 (.inr e)))).sub (λb hb=>.inl hb),by rw [e9];exact ((nG.setCell (by simp;omega) _).setCell (by simp;omega) _).setCell (by simp;omega) _⟩
        . have:=((ae HA).kvo.lt p.block (by rw [hv];rfl)).1
          simp at hm;omega
        . have:=((ae HA).kvo.lt p.block (by rw [hv];rfl)).1
          simp at hm;omega)
       clear hR Ak hkc hrb nG;have YI:=ae HKV;clear HKV;subst YI;go_wp2_with fail;obtain ⟨W9,e9⟩:∃W9,W9=(((wr.setCell ⟨w.heap.size+1+1,0,none⟩ (.slice ka sh.length iG)).setCell ⟨w.heap.size+1+1,1,none⟩ (.slice (some ⟨W.heap.size,0,none⟩) sh.length sh.length)).setCell ⟨w.heap.size+1+1,2,none⟩ (.int .i64 (fR F sh Cs.flatten).length)):=⟨_,rfl⟩;rw [<- e9];have hl9:(sh.map λs=>cols.getD s default).length=sh.length:=aW ..;rw [hl9] at E5;obtain ⟨⟨q0,q1,q2⟩,k1,kn,k2,k3⟩:=ae E5 W9 e9;refine ay (v:=.agg #[.slice ka sh.length iG,.slice (some ⟨W.heap.size,0,none⟩) sh.length sh.length,.int .i64 (fR F sh Cs.flatten).length]) (by simp [results,Tryz.results63,go_sem,q0,q1,q2];try rfl) rfl ?_;exact ⟨_,_,rfl,k1,kn,k2,k3⟩
end Go.Proofs.YteniahoehoncjaaGreatDoor
