import Derived.Test.YtcoaphfimellcaaGreatDoorFBI
set_option maxHeartbeats 0
set_option maxRecDepth 100000
namespace Go.Proofs.YtcoaphfimellcaaGreatDoor
open Go.RowKit
open _root_.Go.Proofs.Tryz
open Option renaming some→σ
open Go.IntKind renaming i64→κ
open Go.RowKit renaming Below→δ
open Go.Value renaming int→ι,slice→ψ,pointer→π,agg→χ
section
open Go.Maps
theorem aeK{j:uS}{i:World}{x mt mg:Nat}{Q:Nat->Prop}{s:List (Lit×ij)}{u:List (Lit×oV)}(h:df j i x mt mg Q s u){d:Nm}(ht:nT d){g:List wj}(b5:g≠[])(a3:∀c∈g,Be c)(E3:g.length<=302){bi:Value}{e:List (Nat×Value)}(hv:bz i 2 bi e.length (uH e))(z:Each (λR c=>R.1=c.pl/\bz i 5 R.2 c.vals.length (CX (c.vals.map tD))) e g) :
 Calls prog 280 #[χ #[.string d.1,ι κ d.2,bi],π (σ (Ad x 0))] i λc w'=>lI j i w' x mt mg Q s (Eh (de s u) d g) c:=by
 have Hz:d.1.size<=maxLen:=by have:=ht.1;unfold maxLen;omega
 have GQ:e.length=g.length:=z.len;obtain⟨M,I,rfl⟩:=bz.slice hv;obtain⟨o,hW⟩:=nm ((i.alloc (obS d.1 d.2 M e.length I)).alloc (iQ 0 0));have jw:=xI hW;have Ae:o.heap.size=i.heap.size+2:=by rw[hW];simp
 have kN:o.heap[i.heap.size]?=σ (obS d.1 d.2 M e.length I)/\o.heap[i.heap.size+1]?=σ (iQ 0 0):=(by rw[hW];have W:=ak (i.alloc (obS d.1 d.2 M e.length I)) (iQ 0 0);rw[show(i.alloc (obS d.1 d.2 M e.length I)).heap.size=i.heap.size+1 by simp]at W;exact⟨(fu _ _ (by simp)).trans (ak i _),W⟩)
 have N:=au (λwr (m:δ o.heap.size o wr)=>(show df j wr x mt mg Q s u/\δ i.heap.size i wr/\wr.heap[i.heap.size]?=σ (obS d.1 d.2 M e.length I)/\wr.heap[i.heap.size+1]?=σ (iQ 0 0)/\bz wr 2 (ψ M e.length I) e.length (uH e)/\Each (λR c=>R.1=c.pl/\bz wr 5 R.2 c.vals.length (CX (c.vals.map tD))) e g from by
  have K:=jw.trans (m.mono (by omega));exact⟨h.below K,K,(m.block _ (by omega)).trans kN.1,(m.block _ (by omega)).trans kN.2,bz.below hv K (ae _),z.mono (λR _ l w=>⟨w.1,bz.below w.2 K (ae _)⟩)⟩))
 have HW:=au hW;obtain⟨X,-,C,f,-⟩:=N.J o (ah _ _);obtain⟨c0,c1,c2⟩:=bf C;obtain⟨f0,f1⟩:=br f;have z0:=fP f 0;have z1:=fP f 1;obtain⟨e0,e1,W,e3,e4,e5,e6,e7⟩:=fq X.fQ;have cl:=ay X.fQ;have IK:=ay C;have Aa:=ay f;have O2:=X.find Hz;have qI:=(X.below (aH (ah _ _))).find Hz;have O:=au h;have E:=au f;have po:=au jw;have xc:=au Ae;have G:=au GQ;have b8:e.length<=302:=by rw[GQ];exact E3
 cases hg:fU s (tk d.1)with
 |none=>simp only[hg]at O2 qI;have Ak:Hid (Eh (de s u) d g=((5,d.2),de s u)):=au (by unfold Eh de;simp only;rw[iM,hg];rfl);clear h hW jw kN X C f hg Ae hv z GQ;go_in;go_wp2_with fail;rw[<- HW.J];go_region;all_goals (try go_wp2_with fail);obtain⟨⟨U,V⟩,d2⟩:=ik (w1:=o) po.J (bF _) E.J (ι κ 5) (ι κ d.2);refine aD (v:=χ #[ι κ 5,ι κ d.2]) (by simp[results,results280,go_sem,U,V];try rfl) rfl ?_;rw[Ak.J];exact O.J.same (aH d2) (5,d.2) rfl
 |some a=>
  simp only[hg]at O2 qI;unfold ij.val at O2 qI;have an:(tk d.1,a)∈s:=nh hg;have D:=X.tab _ an;obtain⟨ca,jd,PB⟩:=D.KR.slice;have b0:=au PB;obtain⟨sa,mo,Dj,-,-⟩:=cu D.own;have b2:=au Dj;obtain⟨H,hN⟩:=nm a.Cs.flatten.length;have HT:=au (λwr (m:δ o.heap.size o wr)=>(show wr.heap[a.q]?=σ (.cells #[ψ ca a.cols.length jd,ψ sa a.Cs.length mo,ι κ (H:Nat)] 205 (0,0))/\eT wr (ψ ca a.cols.length jd) a.cols from by
   have K:=(N.J wr m).1.tab _ an;rw[<- b0.J,<- b2.J,hN];exact⟨K.fQ,K.KR⟩))
  have h5:a.cols.length<=5:=D.Fs.1;have cj:H<=64:=by rw[hN];exact D.few
  have aa:=au (show fH a.cols a.Cs.flatten/\oe j.seg a.Cs/\(∀T∈a.cols,T.2<=2)/\0<a.cols.length from⟨D.fit,D.chk,λT hc=>(D.Fs.2 T hc).2,D.c0⟩);have ab:=au an;have P:Hid (Eh (de s u) d g=match g.findSome? (λc=>iz c a.cols)with|some l=>((7,l),de s u)|none=>if 64<H+g.length then((8,0),de s u)else((0,0),⟨yC (gQ ij.told s) (tk d.1) (a.cols,a.Cs.flatten++g.map JW),gQ oV.told u⟩)):=au (by
   unfold Eh de;simp only;rw[iM,hg,hN];rfl)
  have HN:=au hN;obtain⟨F,EW⟩:=HT.J o (ah _ _);obtain⟨q0,q1,q2⟩:=bf F;have KM:=ay F;clear h hW jw kN X C f hg Ae hv z D PB Dj F EW an GQ hN;go_in;go_wp2_with fail;rw[<- HW.J];go_region;all_goals
   (try go_wp2_with fail);have bo:Hid (δ o.heap.size o o.drew):=au (aH (ah _ _));clear O2 qI c0 c1 c2 f0 f1 z0 z1 e0 e1 W e3 e4 e5 e6 e7 q0 q1 q2;go_loopw[26] (λT wr=>∃p:Nat,p<=e.length/\T=ι κ p/\Hid (g.findSome? (λc=>iz c a.cols)=(g.drop p).findSome? (λc=>iz c a.cols))/\Hid (δ o.heap.size o wr)) (λT _=>e.length - (intOf T).toNat);(case atStart=>exact⟨0,aI _,rfl,au rfl,bo⟩);case round=>
    obtain⟨p,hi,rfl,KT,sO⟩:=hrel;obtain⟨am,mR,C,f,Ls,a4⟩:=N.J wr sO.J;obtain⟨F,EW⟩:=HT.J wr sO.J;by_cases cQ:p<e.length
    .have jY:(p:Int)<e.length:=(by omega);obtain⟨n,ao⟩:∃n,g[p]?=σ n:=⟨_,af (by rw[<- G.J];exact cQ)⟩;obtain⟨R,KP,EC,ME⟩:=Each.get a4 ao;have La:=au (a3 n (aA ao));have ac:Hid (g.findSome? (λc=>iz c a.cols)=match iz n a.cols with|some l=>σ l|none=>(g.drop (p+1)).findSome? (λc=>iz c a.cols)):=au (by rw[KT.J,cE (by rw[<- G.J];exact cQ),(aj.mp ao).2,List.findSome?_cons];cases iz n a.cols<;>rfl);obtain⟨vg,vo,Eb,he,-,cm,w⟩:=bz.at Ls (by omega);cases he;obtain⟨ra,sL,Ew⟩:=bz.slice ME;have x0:wr.cell? (Ad vg (vo+p*2))=σ (ι κ n.pl):=(by have:=w (p*2) _ (ek YR 2 (λ_=>rfl) e KP (j:=0) (by decide));rw[<- EC];exact this);have x1:wr.cell? (Ad vg (vo+p*2+1))=σ (ψ ra n.vals.length sL):=(by have:=w (p*2+1) _ (ek YR 2 (λ_=>rfl) e KP (j:=1) (by decide));rw[<- Ew];exact this);rw[Ew]at ME;obtain⟨k,rC⟩:=nm (wr.alloc (obQ n.pl ra n.vals.length sL));have lQ:=pq rC;have oz:k.heap[wr.heap.size]?=σ (obQ n.pl ra n.vals.length sL):=(by rw[rC];exact ak wr _);have av:=sO.J.trans (lQ.mono sO.J.size);obtain⟨ax,a8⟩:=HT.J k av;obtain⟨q0,q1,q2⟩:=bf ax;obtain⟨k0,k1⟩:=br oz;have a9:=ay ax;have b3:=ay oz;have ap:=au (λb (m:δ k.heap.size k b)=>RX (r:=n) (bz.below ME (lQ.trans (m.mono lQ.size)) (ae _)) (bz.below a8 m (ae _)) La.J.2.2);obtain⟨t,v⟩:=nm (VN (iz n a.cols));rw[<- v]at ap;have HF:=au v;have b7:(k.alloc (iQ 0 0)).drew.heap.size=k.heap.size+1:=(by show(k.heap.push _).size=_;rw[ej])
     have J5:=au (λb (m:δ (k.alloc (iQ 0 0)).drew.heap.size (k.alloc (iQ 0 0)).drew b)=>(show b.heap[k.heap.size]?=σ (iQ 0 0)/\δ k.heap.size k b from
      ⟨(m.block k.heap.size (by omega)).trans (ak k (iQ 0 0)),(aH ((ah k.heap.size k).alloc (ae _) _)).trans (m.mono (by omega))⟩))
     have RW:=au av;have FW:=au rC;clear am mR C f Ls a4 F EW w rC lQ oz ao KP EC ME Ew ax a8 v b7 av;go_wp2_with fail;rw[<- FW.J];clear x0 x1;go_cut[8] (λs8 Z=>∃b9,s8=π (σ (Ad b9 0))/\Hid (Z.heap[b9]?=σ (iQ t.1 t.2)/\δ k.heap.size k Z));case first=>
      go_region_law(refine kC rfl 279 _ _ rfl call279 #[χ #[ι κ n.pl,ψ ra n.vals.length sL],ψ ca a.cols.length jd] (by first|(simp[Act.eval];done)|(simp[Act.eval,Act.put];done)|rfl) _ (ap.J _ (by first|exact aH (ah _ _)|exact aH ((ah _ _).alloc (ae _) _))) ?_;rintro bg b ⟨rfl,f⟩;refine⟨_,rfl,?_⟩;(first|(have XT:=(J5.J b f).1;obtain⟨a0,a1⟩:=br XT;have ga:=λp=>fP XT p;have bx:=au XT;clear XT)|skip);have E:Hid (δ k.heap.size k b):=au (by first|exact(aH (ah _ _)).trans f|exact(J5.J b f).2);clear f);(all_goals(try go_wp2_with fail));(all_goals go_meet);all_goals
       first
       |exact⟨_,rfl,au ⟨ak _ _,E.J.alloc E.J.size _⟩⟩
       |exact⟨_,rfl,au ⟨aQ _ _ 1 _ _ _ (aQ _ _ 0 _ _ _ bx.J),(E.J.setCell (ae _) _).setCell (ae _) _⟩⟩
     case rest=>
      obtain⟨b9,rfl,H9⟩:=hcut;clear k0 k1 q0 q1 q2 ap J5 a9 b3;obtain⟨XU,ad⟩:=H9.J;obtain⟨o0,o1⟩:=br XU;have VJ:=au (sq t.1 t.2 wc);have b1:=ay XU;clear XU ad;(try go_wp2_with fail);refine VJ.J.mono ?_;rintro c w3 ⟨rfl,iw⟩;obtain⟨XU,ad⟩:=H9.J;have AX:=(iw.block _ b1).trans XU;obtain⟨g0,g1⟩:=br AX;have L:=RW.J.trans ((ad.trans (iw.mono ad.size)).mono RW.J.size);obtain⟨-,Y,-,A,-⟩:=N.J w3 L;obtain⟨f0,f1⟩:=br A;have z0:=fP A 0;have z1:=fP A 1;have al:=ay A;have aq:=au A;have XR:=au Y;have oI:=au L;clear XU ad iw AX L Y A o0 o1;cases hag:iz n a.cols with
      |none=>
        have v:=HF.J;rw[hag]at v ac;have hd:decide (t.1≠0)=false:=by rw[v];rfl
        rw[hd];clear hd v hag;go_wp2_with fail
        first
        |exact⟨⟨p+1,by omega,by go_num,ac,oI⟩,by simp[intOf];omega⟩
        | (go_roundw
           case rel=>exact⟨p+1,by omega,by go_num,ac,oI⟩
           case measure=>simp[intOf];omega)
      |some l=>have v:=HF.J;rw[hag]at v ac;have hd:decide (t.1≠0)=true:=(by rw[v];rfl);have Ak:Hid (Eh (de s u) d g=(t,de s u)):=au (by rw[P.J,ac.J,v];rfl);rw[hd];clear hd v hag;go_wp2_with fail;obtain⟨⟨U,V⟩,d2⟩:=ik XR.J (bF _) aq.J (ι κ t.1) (ι κ t.2);refine aD (v:=χ #[ι κ t.1,ι κ t.2]) (by simp[results,results280,go_sem,U,V];try rfl) rfl ?_;rw[Ak.J];exact O.J.same d2 t rfl
    obtain rfl:p=e.length:=(by omega);have Cd:g.findSome? (λc=>iz c a.cols)=none:=(by rw[KT.J,G.J,gB];rfl)
    rw[Cd]at P;have qe:Hid (∀c∈g,iz c a.cols=none):=au (λc z=>by
     have:=List.findSome?_eq_none_iff.mp Cd c z;simpa using this)
    obtain⟨c0,c1,c2⟩:=bf C;obtain⟨q0,q1,q2⟩:=bf F;obtain⟨f0,f1⟩:=br f;have z0:=fP f 0;have z1:=fP f 1;have a9:=ay F;have cb:=ay C;have cc:=ay f;have cd:=ay am.fQ;obtain⟨e0,e1,W,e3,e4,e5,e6,e7⟩:=fq am.fQ;have VJ:=au f;have bw:=au mR;rw[<- G.J]at P;clear am mR C f Ls a4 F EW Cd;by_cases bb:64<H+e.length;{have b4:((H:Nat):Int)+(e.length:Nat)>64:=(by omega);rw[aF bb]at P;go_wp2_with fail;go_quiet(fail);go_wp2_with fail;obtain⟨⟨U,V⟩,d2⟩:=ik (w1:=wr.drewN nq) (below_drewN bw.J _) (bF _) VJ.J (ι κ 8) (ι κ 0);refine aD (v:=χ #[ι κ 8,ι κ 0]) (by simp[results,results280,go_sem,U,V];try rfl) rfl ?_;rw[P.J];exact O.J.same d2 (8,0) rfl}
    have b4:¬((H:Nat):Int)+(e.length:Nat)>64:=(by omega);rw[aE bb]at P;go_wp2_with fail;go_quiet(fail);obtain⟨r,LD⟩:=nm (wr.drewN nq);have L:δ o.heap.size o r:=(by rw[LD];exact below_drewN sO.J _)
    rw[<- LD];obtain⟨Hn,Y,a2,A,bc,bd⟩:=N.J r L;obtain⟨NT,U3⟩:=HT.J r L;clear c0 c1 c2 q0 q1 q2 f0 f1 z0 z1 e0 e1 W e3 e4 e5 e6 e7 LD;obtain⟨c0,c1,c2⟩:=bf a2;obtain⟨q0,q1,q2⟩:=bf NT;obtain⟨e0,e1,W,e3,e4,e5,e6,e7⟩:=fq Hn.fQ;have cf:=ay NT;have ce:=ay a2;have cg:=ay Hn.fQ;have al:=ay A;have oI:=au L;have P0:Hid (∀c∈g,c.vals.length=a.cols.length):=au (λc z=>(Gf (a3 c z) (qe.J c z)).1);have be:Hid (fH a.cols (g.map JW)):=au (λc z=>by
     obtain⟨n,w,rfl⟩:=cI.mp z;exact(Gf (a3 n w) (qe.J n w)).2)
    have bl:=au (λZ (m:δ r.heap.size r Z)=>LM (w:=Z) (t:=d) (n:=a.cols.length) (bz.below bc m (ae _)) (bd.mono (λ_ _ _ w=>⟨w.1,bz.below w.2 m (ae _)⟩)) P0.J aa.J.2.2.2 h5 E3);have Tv:=au (λb bv vs base (m:δ r.heap.size r b) (ck:r.heap.size<=base) (ho:gZ b base bv vs (bh a.cols.length (g.map JW)))=>(show Calls prog 277 #[π (σ (Ad a.q 0)),bv,χ #[ι κ j.seg,ι κ j.pk,ι κ j.wd,.bool j.prune,.bool j.push,ι κ j.bud]] b (λc w'=>c=.returned (.tuple #[])/\∃GV qC B,pJ (λl=>Q l\/l=i.heap.size+1) b w' a.q 0 a.cols a.cv a.sv GV qC B (H+e.length:Nat)/\oe j.seg B/\B.flatten=a.Cs.flatten++g.map JW)from by
     have ny:=Y.trans (m.mono Y.size);have np:i.heap.size+1<b.heap.size:=ai al m.size;have aC:=O.J.wide ny (bF _) np;have b6:=aC.tab _ ab.J;have DM:∀l,lF a.q a.sv l->Q l\/l=i.heap.size+1:=λl zm=>aC.sub l (.inr (.inr ⟨_,ab.J,zm⟩));have y:=b6.adds aC.sV DM;rw[<- HN.J]at y;have ar:(g.map JW).length=e.length:=by rw[aR,G.J]
     have a5:=ahB (w:=b) (mv:=bv) (new:=g.map JW) j HN.J y aa.J.2.1 (OG ho (λl hs zm=>by
      have h0:=(ho.inside hs).1;have K:l<r.heap.size:=lF.inside ((N.J r oI.J).1.tab _ ab.J) zm;omega)) aa.J.1 be.J (by rw[ar];omega) (by rw[ar,G.J];exact jL.mpr b5) aa.J.2.2.1 aa.J.2.2.2 h5 (aI _)
     rw[ar]at a5;exact a5))
    have bm:=au (λb (m:δ r.heap.size r b)=>(show b.cell? (Ad i.heap.size 2)=σ (ψ M e.length I)/\(b.cell? (Ad x 0)=σ (ι κ j.seg)/\b.cell? (Ad x 1)=σ (ι κ j.pk)/\b.cell? (Ad x 2)=σ (ι κ j.wd)/\b.cell? (Ad x 3)=σ (.bool j.prune)/\b.cell? (Ad x 4)=σ (.bool j.push)/\b.cell? (Ad x 5)=σ (ι κ j.bud))/\i.heap.size<b.heap.size/\x<b.heap.size from by
     obtain⟨k1,-,k3,-⟩:=N.J b (oI.J.trans (m.mono oI.J.size));obtain⟨j0,j1,j2,j3,j4,j5,-,-⟩:=fq k1.fQ;exact⟨(bf k3).2.2,⟨j0,j1,j2,j3,j4,j5⟩,ay k3,ay k1.fQ⟩))
    have XR:=au Y;have aq:=au A;clear Hn Y a2 A bc bd NT U3 L;(try go_wp2_with fail);go_cut[] (λZ=>Hid (∃b GV qC B,δ r.heap.size r b/\pJ (λl=>Q l\/l=i.heap.size+1) b Z a.q 0 a.cols a.cv a.sv GV qC B (H+e.length:Nat)/\oe j.seg B/\B.flatten=a.Cs.flatten++g.map JW));case first=>
     go_region_law(first
      | (refine kC rfl 281 _ _ rfl call281 #[χ #[.string d.1,ι κ d.2,ψ M e.length I],ι κ a.cols.length] (by first|(simp[Act.eval];done)|(simp[Act.eval,Act.put];done)|rfl) _ (bl.J _ (aH (ah _ _))) ?_;rintro bg b ⟨bv,vs,rfl,hO,f⟩;refine⟨_,rfl,?_⟩;obtain⟨ba,jA,rfl,-,-⟩:=cu hO.row;have E:Hid (δ r.heap.size r b):=au ((aH (ah _ _)).trans f);obtain⟨l0,⟨l1,l2,l3,l4,l5,l6⟩,l7,l8⟩:=bm.J b E.J;have HO:=au hO;clear hO f)
      | (refine kC rfl 277 _ _ rfl call277 #[π (σ (Ad a.q 0)),.slice ba _ jA,χ #[ι κ j.seg,ι κ j.pk,ι κ j.wd,.bool j.prune,.bool j.push,ι κ j.bud]] (by first|(simp[Act.eval];done)|(simp[Act.eval,Act.put];done)|rfl) _ (Tv.J _ _ _ _ E.J (by simp) HO.J) ?_;rintro bg w4 ⟨rfl,y⟩;refine⟨_,rfl,?_⟩;have HA:=au y;clear y))
     (all_goals(try go_wp2_with fail));(all_goals go_meet);all_goals obtain⟨GV,qC,B,y,hB,hC⟩:=HA.J;exact au ⟨b,GV,qC,B,E.J,y,hB,hC⟩
    case rest=>
     obtain⟨b,GV,qC,B,f,y,vN,EU⟩:=hcut.J;have ny:=XR.J.trans (f.mono XR.J.size);have np:i.heap.size+1<b.heap.size:=ai al f.size;have QH:wc.heap[i.heap.size+1]?=σ (iQ 0 0):=(by refine(y.keep.block _ ⟨np,λhm=>?_⟩).trans ((f.block _ al).trans aq.J);have:=O.J.sV _ (O.J.sub _ (.inr (.inr ⟨_,ab.J,hm⟩)));omega)
     have uT:Hid (∀W9,W9=(wc.setCell (Ad (i.heap.size+1) 0) (ι κ 0)).setCell (Ad (i.heap.size+1) 1) (ι κ 0)->lI j i W9 x mt mg Q s (Eh (de s u) d g) (.returned (χ #[ι κ 0,ι κ 0]))):=au (λW9 h9=>by
      rw[P.J];refine aer O.J ny (bF _) np ab.J y ?_ vN EU be.J ?_ h9 rfl
      . rw[EU,aw,aR,<- HN.J,G.J]
      . rw[EU,aw,aR,<- HN.J,<- G.J];omega)
     obtain⟨f0,f1⟩:=br QH;have z0:=fP QH 0;have z1:=fP QH 1;have ci:=ay QH;have bt:=au QH;clear f y vN EU ny np QH hcut;go_wp2_with fail;obtain⟨U,V⟩:=br (aQ _ _ 1 _ _ (ι κ 0) (aQ _ _ 0 _ _ (ι κ 0) bt.J));refine aD (v:=χ #[ι κ 0,ι κ 0]) (by simp[results,results280,go_sem,U,V];try rfl) rfl ?_;exact uT.J _ rfl
end
