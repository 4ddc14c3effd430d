import Derived.Test.YteniahoehoncjaaGreatDoorQBR
set_option maxHeartbeats 99999999
set_option maxRecDepth 100000
namespace Go.Proofs.YteniahoehoncjaaGreatDoor
open Go.RowKit
section
open Go.Maps
structure nI (oa ob:rO)(w:World)(p p2:Nat)(X Ma Mb:Nat->Prop)(sa sb:ou)(lo:Nat):Prop where
 one:One oa w p X Ma sa
 two:One ob w p2 X Mb sb
 dis:∀b,Ma b->¬Mb b
 la:∀b,Ma b->lo<=b
 lb:∀b,Mb b->lo<=b
section
variable {oa ob:rO} {w w':World} {p p2:Nat} {X X' Ma Mb M':Nat->Prop} {sa sb s':ou} {lo:Nat}
theorem nI.wide (h:nI oa ob w p p2 X Ma Mb sa sb lo)(hb:Below w.heap.size w w'):nI oa ob w' p p2 (λb=>X b\/(w.heap.size<=b/\b<w'.heap.size)) Ma Mb sa sb lo:=⟨h.one.wide hb,h.two.wide hb,h.dis,h.la,h.lb⟩
theorem nI.swap (h:nI oa ob w p p2 X Ma Mb sa sb lo):nI ob oa w p2 p X Mb Ma sb sa lo:=⟨h.two,h.one,λb h1 h2=>h.dis b h2 h1,h.lb,h.la⟩
theorem nI.ask (h:nI oa ob w p p2 X Ma Mb sa sb lo)(hl:lo<=w.heap.size)(hG:sP oa w w' p X Ma X' M' s'):nI oa ob w' p p2 X' M' Mb s' sb lo:=⟨hG.one,h.two.beside hG h.one.sub h.dis,hG.apart h.two h.dis,hG.XZ h.la hl,h.lb⟩
theorem nI.set (h:nI oa ob w p p2 X Ma Mb sa sb lo){k i:Nat}{u:Value}(hk:X k)(h1:¬Ma k)(h2:¬Mb k):nI oa ob (w.setCell ⟨k,i,none⟩ u) p p2 X Ma Mb sa sb lo:=⟨h.one.set hk h1,h.two.set hk h2,h.dis,h.la,h.lb⟩
theorem nI.drew (h:nI oa ob w p p2 X Ma Mb sa sb lo):nI oa ob w.drew p p2 X Ma Mb sa sb lo:=⟨h.one.drewN 1,h.two.drewN 1,h.dis,h.la,h.lb⟩
theorem nI.not (h:nI oa ob w p p2 X Ma Mb sa sb lo){k:Nat}(hk:w.heap.size<=k):¬Ma k/\¬Mb k:=⟨λe=>by have:=h.one.nO _ (h.one.sub _ e);omega,λe=>by have:=h.two.nO _ (h.two.sub _ e);omega⟩
end
theorem nI.behind {oa ob:rO}{w w2:World}{p p2:Nat}{X Ma Mb X2 M2:Nat->Prop}{sa sb s2:ou}{lo:Nat}(h:nI oa ob w p p2 X Ma Mb sa sb lo)(hl:lo<=w.heap.size)(hG:sP oa w.drew w2 p X Ma X2 M2 s2)(a:List UInt8×Nat×Nat) :
 (w2.alloc (.cells (Ih a).toArray 30)).heap[w2.heap.size]?=some (.cells (Ih a).toArray 30 (0,0))/\(∃X' M',nI oa ob (w2.alloc (.cells (Ih a).toArray 30)) p p2 X' M' Mb s2 sb lo/\¬M' w2.heap.size/\¬Mb w2.heap.size)/\Below lo w (w2.alloc (.cells (Ih a).toArray 30))/\∀k,k<w.heap.size->¬Ma k->(w2.alloc (.cells (Ih a).toArray 30)).heap[k]?=w.heap[k]?:=by
 have hb:Below w2.heap.size w2 (w2.alloc (.cells (Ih a).toArray 30)):=(ag _ _).alloc (af _) _;have h2:=h.drew.ask hl hG;have hs:w.heap.size<=w2.heap.size:=hG.keep.size;have hn:=h2.not (af _);exact ⟨ai _ _,⟨_,_,h2.wide hb,hn.1,hn.2⟩,(aJ (ag lo w)).trans ((hG.below h.la hl).trans (hb.mono (by omega))),λk hk hm=>(hb.block k (by omega)).trans (hG.keep.block k ⟨hk,hm⟩)⟩
theorem nI.ahead {oa ob:rO}{w w2:World}{p p2:Nat}{X Ma Mb X2 M2:Nat->Prop}{sa sb s2:ou}{lo:Nat}(h:nI oa ob w p p2 X Ma Mb sa sb lo)(hl:lo<=w.heap.size)
 (hG:sP oa (w.alloc (.cells #[.string ⟨#[]⟩,.int .i64 0,.int .i64 0] 30)).drew w2 p (λb=>X b\/(w.heap.size<=b/\b<(w.alloc (.cells #[.string ⟨#[]⟩,.int .i64 0,.int .i64 0] 30)).heap.size)) Ma X2 M2 s2) :
 w2.heap[w.heap.size]?=some (.cells #[.string ⟨#[]⟩,.int .i64 0,.int .i64 0] 30 (0,0))/\∀x y z:Value,(∃X' M',nI oa ob (((w2.setCell ⟨w.heap.size,0,none⟩ x).setCell ⟨w.heap.size,1,none⟩ y).setCell ⟨w.heap.size,2,none⟩ z) p p2 X' M' Mb s2 sb lo/\¬M' w.heap.size/\¬Mb w.heap.size)/\Below lo w (((w2.setCell ⟨w.heap.size,0,none⟩ x).setCell ⟨w.heap.size,1,none⟩ y).setCell ⟨w.heap.size,2,none⟩ z)/\∀k,k<w.heap.size->¬Ma k->(((w2.setCell ⟨w.heap.size,0,none⟩ x).setCell ⟨w.heap.size,1,none⟩ y).setCell ⟨w.heap.size,2,none⟩ z).heap[k]?=w.heap[k]?:=by
 have hb:Below w.heap.size w (w.alloc (.cells #[.string ⟨#[]⟩,.int .i64 0,.int .i64 0] 30)):=(ag _ _).alloc (af _) _;have hz:(w.alloc (.cells #[.string ⟨#[]⟩,.int .i64 0,.int .i64 0] 30)).heap.size=w.heap.size+1:=by simp
 have hz':(w.alloc (.cells #[.string ⟨#[]⟩,.int .i64 0,.int .i64 0] 30)).drew.heap.size=w.heap.size+1:=hz;have hn:=h.not (af _);have hw:=(h.wide hb).drew;have h2:=hw.ask (by rw [hz'];omega) hG;have hkm:¬M2 w.heap.size:=λe=>by
  rcases hG.DF _ e with e|e
  . exact hn.1 e
  . rw [hz'] at e;omega
 have hkx:X2 w.heap.size:=hG.more _ (.inr ⟨af _,by rw [hz];omega⟩);refine ⟨(hG.keep.block _ ⟨by rw [hz'];omega,hn.1⟩).trans (ai w _),λx y z=>⟨⟨X2,M2,((h2.set hkx hkm hn.2).set hkx hkm hn.2).set hkx hkm hn.2,hkm,hn.2⟩,?_,λk hk hm=>?_⟩⟩
 . exact ((((aJ (hb.mono hl)).trans (hG.below h.la (by rw [hz'];omega))).setCell hl _).setCell hl _).setCell hl _
 . exact (aD _ _ _ _ (show k≠w.heap.size by omega)).trans ((aD _ _ _ _ (show k≠w.heap.size by omega)).trans ((aD _ _ _ _ (show k≠w.heap.size by omega)).trans ((hG.keep.block k ⟨by rw [hz'];omega,hm⟩).trans (hb.block k hk))))
theorem QH {w:World}{a b:nU}{ops:List OpS}{sv:Value}(hg:qc w)(hs:bF w 3 sv ops.length (ops.flatMap Yj))(hl:ops.length<=9000000000000000000)(hu:∀x∈ops,x.2.1.size<=maxLen) :
 Calls Tryz.prog 5 #[a.val,b.val,sv] w λr w'=>r=.returned (.bool true)/\Below w.heap.size w w':=by
 obtain ⟨va,cJ,rfl⟩:=bF.slice hs;obtain ⟨seg,pk,wd,prune,push,bud⟩:=a;obtain ⟨Gn,Yt,Yu,rJ,xk,UA⟩:=b;have Uu:nU.val ⟨seg,pk,wd,prune,push,bud⟩=.agg #[.int .i64 seg,.int .i64 pk,.int .i64 wd,.bool prune,.bool push,.int .i64 bud]:=rfl;obtain ⟨f,hf⟩:∃f:nU,f=⟨seg,pk,wd,prune,push,bud⟩:=⟨_,rfl⟩;rw [<- hf] at Uu ⊢;obtain ⟨W,hW⟩:∃W,W=(w.alloc (.cells #[.int .i64 seg,.int .i64 pk,.int .i64 wd,.bool prune,.bool push,.int .i64 bud] 23)).alloc (.cells #[.int .i64 Gn,.int .i64 Yt,.int .i64 Yu,.bool rJ,.bool xk,.int .i64 UA] 23):=⟨_,rfl⟩;have lK:Below w.heap.size w W:=by rw [hW];exact ((ag _ _).alloc (af _) _).alloc (by simp) _
 have Vb:W.heap[w.heap.size]?=some (.cells #[.int .i64 seg,.int .i64 pk,.int .i64 wd,.bool prune,.bool push,.int .i64 bud] 23 (0,0))/\W.heap[w.heap.size+1]?=some (.cells #[.int .i64 Gn,.int .i64 Yt,.int .i64 Yu,.bool rJ,.bool xk,.int .i64 UA] 23 (0,0)):=by
  rw [hW];have e2:=ai (w.alloc (.cells #[.int .i64 seg,.int .i64 pk,.int .i64 wd,.bool prune,.bool push,.int .i64 bud] 23)) (.cells #[.int .i64 Gn,.int .i64 Yt,.int .i64 Yu,.bool rJ,.bool xk,.int .i64 UA] 23);rw [show (w.alloc (.cells #[.int .i64 seg,.int .i64 pk,.int .i64 wd,.bool prune,.bool push,.int .i64 bud] 23)).heap.size=w.heap.size+1 by simp] at e2;exact ⟨(dX _ _ (by simp)).trans (ai w _),e2⟩
 have qK:=hide (Ci f (hg.on (lK.mono hg.size)));have HG:=hide hg;have HS:=hide hs;have HU:=hide hu;have oD:=hide lK;have HW:=hide hW;have HKW:=hide Vb;have hlW:=az Vb.1;have apj:=az Vb.2;rw [Uu] at qK ⊢;clear hg hs hu lK hW Vb hf Uu;unfold nU.val;simp only;go_enter Tryz.func5,Tryz.ntmps5;go_wp2_with fail;rw [<- ae HW];refine (ae qK).mono ?_;rintro r w1 ⟨rfl,bL⟩;have oq:=(ae oD).trans (bL.mono (ae oD).size);have hka:=(bL.block _ hlW).trans (ae HKW).1;have QM:=(bL.block _ apj).trans (ae HKW).2;obtain ⟨W1,qH⟩:∃W1,W1=w1.setCell ⟨w.heap.size+1,5,none⟩ (.int .i64 bud):=⟨_,rfl⟩;have aj6:Below w.heap.size w W1:=by rw [qH];exact oq.setCell (cq _) _
 have aj7:W1.heap[w.heap.size+1]?=some (.cells #[.int .i64 Gn,.int .i64 Yt,.int .i64 Yu,.bool rJ,.bool xk,.int .i64 bud] 23 (0,0)):=by rw [qH];exact aO _ _ 5 _ _ _ QM
 obtain ⟨j0,j1,j2,j3,j4,j5⟩:=om hka;obtain ⟨k0,k1,k2,k3,k4,k5⟩:=om QM;have z5:=lz QM 5;have hla:=az hka;have hlb:=az QM;have HO:=hide (sj seg pk wd bud prune push W1);have eI:=hide aj6;have HKB:=hide aj7;have xX:=hide qH;clear bL oq hka QM qH aj6 aj7;go_wp2_with fail;rw [<- ae xX];refine (ae HO).mono ?_;rintro r w2 ⟨rfl,bO⟩;have qR:=(ae eI).trans (bO.mono (ae eI).size);have aj8:=(bO.block _ (az (ae HKB))).trans (ae HKB);have HN:=hide (D8 seg pk wd bud prune push w2 (X0:=λ_=>False) (λb hb=>hb.elim));have jg:=hide qR;have aj9:=hide aj8;clear bO qR aj8 j0 j1 j2 j3 j4 j5 k0 k1 k2 k3 k4 k5 z5;go_wp2_with fail;refine (ae HN).mono ?_;rintro r w3 ⟨p,X3,M3,rfl,qn,-,-,hm,eD⟩;have vN:=(ae jg).trans (eD.mono (ae jg).size);have afA:=(eD.block _ (az (ae aj9))).trans (ae aj9);obtain ⟨k0,k1,k2,k3,k4,k5⟩:=om afA;have avI:=az afA;have ug:=hide (sj Gn Yt Yu bud rJ xk w3);have xD:=hide qn;have IJ:=hide (λb hb=>(show w.heap.size<=b from aw (ae jg).size (hm b hb)));have px:=hide vN;clear qn hm eD vN afA;go_wp2_with fail;refine (ae ug).mono ?_;rintro r w4 ⟨rfl,me⟩;have KW:=(ae px).trans (me.mono (ae px).size);have ho4:=(ae xD).wide me;have HN2:=hide (D8 Gn Yt Yu bud rJ xk w4 (X0:=λb=>X3 b\/(w3.heap.size<=b/\b<w4.heap.size)) ho4.nO);have DP:=hide KW;have HO4:=hide ho4;clear me KW ho4 k0 k1 k2 k3 k4 k5;go_wp2_with fail;refine (ae HN2).mono ?_;rintro r w5 ⟨p2,X5,M5,rfl,C4,D0,CH,Xq,vz⟩;have KV:=(ae DP).trans (vz.mono (ae DP).size);have UJ:=(ae HO4).stays vz.size (λb h1 _=>vz.block b h1) (λb hb=>vz.block b ((ae HO4).nO b ((ae HO4).sub b hb))) D0 CH C4.nO;have Rp:Hid (nI (rF seg pk wd bud prune push) (rF Gn Yt Yu bud rJ xk) w5 p p2 X5 M3 M5 ⟨[],[]⟩ ⟨[],[]⟩ w.heap.size/\Below w.heap.size w w5):=hide ⟨⟨UJ,C4,λb h1 h2=>by
  have:=(ae HO4).nO b ((ae HO4).sub b h1);have:=Xq b h2;omega,ae IJ,λb hb=>aw (ae DP).size (Xq b hb)⟩,KV⟩
 clear C4 D0 CH Xq vz KV UJ;go_wp2_with fail;obtain ⟨oa,hoa⟩:∃oa,oa=rF seg pk wd bud prune push:=⟨_,rfl⟩;obtain ⟨ob,Zd⟩:∃ob,ob=rF Gn Yt Yu bud rJ xk:=⟨_,rfl⟩;have N0:Hid (ob.bud=oa.bud):=hide (by rw [hoa,Zd];rfl);rw [<- hoa,<- Zd] at Rp;clear hoa Zd;go_loopw [9] (λc wr=>∃(i:Nat) (X Ma Mb:Nat->Prop) (st:ou),i<=ops.length/\c=.int .i64 i/\Hid (nI oa ob wr p p2 X Ma Mb st st w.heap.size/\Below w.heap.size w wr)) (λc _=>ops.length - (intOf c).toNat)
 case atStart=>exact ⟨0,X5,M3,M5,⟨[],[]⟩,aN _,rfl,Rp⟩
 case round=>
  obtain ⟨i,X,Ma,Mb,st,hi,rfl,HL⟩:=hrel;obtain ⟨hT,hB⟩:=ae HL;have kd:=hB.size;by_cases cF:i<ops.length
  . have jI:(i:Int)<ops.length:=by omega
    obtain ⟨x,Oc⟩:∃x,ops[i]?=some x:=⟨_,ah cF⟩;have hux:=ae HU x (aG Oc);have HXI:=hide Oc;obtain ⟨vg,vo,AW,he,-,hvg,hx⟩:=bF.at (bF.below (ae HS) hB (af _)) (by omega)
    cases he
    have x1:wr.cell? ⟨vg,vo+i*3+1,none⟩=some (.string x.2.1):=hx (i*3+1) _ (dc Yj 3 (λ_=>rfl) ops Oc (j:=1) (by decide));have x2:wr.cell? ⟨vg,vo+i*3+2,none⟩=some (.string x.2.2):=hx (i*3+2) _ (dc Yj 3 (λ_=>rfl) ops Oc (j:=2) (by decide));have iu:=(ae HG).on (hB.mono (ae HG).size);have hbz:Below wr.heap.size wr (wr.alloc (.cells #[.string ⟨#[]⟩,.int .i64 0,.int .i64 0] 30)):=(ag _ _).alloc (af _) _;obtain ⟨U,hU⟩:∃U,U=(qA oa.bud st x.2.1 x.2.2).1:=⟨_,rfl⟩;obtain ⟨s2,LN⟩:∃s2,s2=(qA oa.bud st x.2.1 x.2.2).2:=⟨_,rfl⟩;have qp:=hide (oe (hT.drew.one) (iu.drewN 1) (user:=x.2.1) (text:=x.2.2) hux);have rE:=hide (oe ((hT.wide hbz).drew.one) ((iu.on (hbz.mono iu.size)).drewN 1) (user:=x.2.1) (text:=x.2.2) hux);rw [<- hU,<- LN] at qp rE;have HTO:Hid (D9 x.2.2=true->Qm U):=hide (λh=>by rw [hU];exact uX hT.one.told h hux);have HUU:=hide (show (qA ob.bud st x.2.1 x.2.2).1=U/\(qA ob.bud st x.2.1 x.2.2).2=s2 from by rw [ae N0,hU,LN];exact ⟨rfl,rfl⟩);have HTT:=hide (And.intro hT kd);have HBR:=hide hB;clear hT hB hx Oc iu hbz hU LN;go_wp2_with fail;unfold rP at qp rE
    go_cut [10] (λs10 wx=>∃b9,s10=.pointer (some ⟨b9,0,none⟩)/\Hid (wx.heap[b9]?=some (.cells (Ih U).toArray 30 (0,0))/\(∃X' M',nI oa ob wx p p2 X' M' Mb s2 st w.heap.size/\¬M' b9/\¬Mb b9)/\Below w.heap.size wr wx))
    case first=>
     go_region_law (refine iV rfl 9 _ _ rfl Tryz.call9 #[.pointer (some ⟨p,0,none⟩),.string x.2.1,.string x.2.2] (by first|(simp [Act.eval];done)|(simp [Act.eval,Act.put];done)|rfl) _ (by first|exact ae qp|exact ae rE) ?_;rintro r w2 ⟨rfl,-,X2,M2,hG⟩;refine ⟨_,rfl,?_⟩;(first|(have NQ:=nI.behind (ae HTT).1 (ae HTT).2 hG U;have HH:=hide NQ;clear NQ)|(have NQ:=nI.ahead (ae HTT).1 (ae HTT).2 hG;obtain ⟨a0,a1,a2⟩:=aR NQ.1;have ga:=λi=>lz NQ.1 i;have hlk:=az NQ.1;have HH:=hide NQ;clear NQ));clear hG)
     all_goals (try go_wp2_with fail)
     all_goals go_meet
     all_goals
      first
      |exact ⟨_,rfl,hide ⟨(ae HH).1,(ae HH).2.1,(ae HH).2.2.1⟩⟩
      |exact ⟨_,rfl,hide ⟨Ch (ae HH).1 _ _ _,((ae HH).2 _ _ _).1,((ae HH).2 _ _ _).2.1⟩⟩
    case rest=>
     obtain ⟨b9,rfl,H9⟩:=hcut;obtain ⟨W6,RJ⟩:∃W6,W6=wc:=⟨_,rfl⟩;subst RJ;obtain ⟨Ia,⟨X6,M6,hT6,hn1,hn2⟩,Gz⟩:=ae H9;have Np:=(ae HBR).trans Gz;have apm:=Np.size;obtain ⟨vg',vo',AW,he,-,avM,hx⟩:=bF.at (bF.below (ae HS) Np (af _)) (by omega)
     cases he
     have y1:W6.cell? ⟨vg,vo+i*3+1,none⟩=some (.string x.2.1):=hx (i*3+1) _ (dc Yj 3 (λ_=>rfl) ops (ae HXI) (j:=1) (by decide));have y2:W6.cell? ⟨vg,vo+i*3+2,none⟩=some (.string x.2.2):=hx (i*3+2) _ (dc Yj 3 (λ_=>rfl) ops (ae HXI) (j:=2) (by decide));have iu:=(ae HG).on (Np.mono (ae HG).size);have hbz:Below W6.heap.size W6 (W6.alloc (.cells #[.string ⟨#[]⟩,.int .i64 0,.int .i64 0] 30)):=(ag _ _).alloc (af _) _;have NS:=hide (oe (hT6.swap.drew.one) (iu.drewN 1) (user:=x.2.1) (text:=x.2.2) hux);have o8:=hide (oe ((hT6.swap.wide hbz).drew.one) ((iu.on (hbz.mono iu.size)).drewN 1) (user:=x.2.1) (text:=x.2.2) hux);rw [(ae HUU).1,(ae HUU).2] at NS o8;have abo:=hide (And.intro hT6.swap apm);have vS:=hide Np;have HN9:=hide (And.intro Ia hn2);have hl9:=az Ia;clear Ia hT6 hn1 hn2 Gz Np hx iu hbz x1 x2;go_wp2_with fail;unfold rP at NS o8
     go_cut [11] (λs11 wx=>∃b10,s11=.pointer (some ⟨b10,0,none⟩)/\Hid (wx.heap[b10]?=some (.cells (Ih U).toArray 30 (0,0))/\wx.heap[b9]?=some (.cells (Ih U).toArray 30 (0,0))/\(∃X' Ma' Mb',nI oa ob wx p p2 X' Ma' Mb' s2 s2 w.heap.size)/\Below w.heap.size W6 wx))
     case first=>
      go_region_law (refine iV rfl 9 _ _ rfl Tryz.call9 #[.pointer (some ⟨p2,0,none⟩),.string x.2.1,.string x.2.2] (by first|(simp [Act.eval];done)|(simp [Act.eval,Act.put];done)|rfl) _ (by first|exact ae NS|exact ae o8) ?_;rintro r w2 ⟨rfl,-,X2,M2,hG⟩;refine ⟨_,rfl,?_⟩;(first|(have NQ:=nI.behind (ae abo).1 (ae abo).2 hG U;have HH:=hide NQ;clear NQ)|(have NQ:=nI.ahead (ae abo).1 (ae abo).2 hG;obtain ⟨a0,a1,a2⟩:=aR NQ.1;have ga:=λi=>lz NQ.1 i;have hlk:=az NQ.1;have HH:=hide NQ;clear NQ));clear hG)
      all_goals (try go_wp2_with fail)
      all_goals go_meet
      all_goals
       first
       |exact ⟨_,rfl,hide ⟨(ae HH).1,((ae HH).2.2.2 _ hl9 (ae HN9).2).trans (ae HN9).1,(ae HH).2.1.elim (λ_ h=>h.elim (λ_ h=>⟨_,_,_,h.1.swap⟩)),(ae HH).2.2.1⟩⟩
       |exact ⟨_,rfl,hide ⟨Ch (ae HH).1 _ _ _,(((ae HH).2 _ _ _).2.2 _ hl9 (ae HN9).2).trans (ae HN9).1,((ae HH).2 _ _ _).1.elim (λ_ h=>h.elim (λ_ h=>⟨_,_,_,h.1.swap⟩)),((ae HH).2 _ _ _).2.1⟩⟩
     case rest=>
      obtain ⟨b10,rfl,H10⟩:=hcut;obtain ⟨W7,hW7⟩:∃W7,W7=wc:=⟨_,rfl⟩;subst hW7;obtain ⟨Tj,h9,⟨X7,Ma7,Mb7,hT7⟩,Pw⟩:=ae H10;have U6:=(ae vS).trans Pw;unfold Ih at Tj h9;obtain ⟨a0,a1,a2⟩:=aR h9;obtain ⟨b0,b1,b2⟩:=aR Tj;have apn:=az h9;have ar1:=az Tj;have HSM:=hide (Ba U U W7);rw [bu rfl] at HSM;unfold rP at HSM;have HT7:=hide hT7;have Rw:=hide U6;have HK7:=hide h9;clear Tj h9 hT7 Pw U6 y1 y2;go_wp2_with fail;refine (ae HSM).mono ?_;rintro r w8 ⟨rfl,B5⟩;have Y6:=(ae Rw).trans (B5.mono (ae Rw).size);obtain ⟨vg',vo',AW,he,-,avP,hx⟩:=bF.at (bF.below (ae HS) Y6 (af _)) (by omega)
      cases he
      have y2:w8.cell? ⟨vg,vo+i*3+2,none⟩=some (.string x.2.2):=hx (i*3+2) _ (dc Yj 3 (λ_=>rfl) ops (ae HXI) (j:=2) (by decide));have hg8:=(ae HG).on (Y6.mono (ae HG).size);have HIQ:=hide (sq x.2.2 w8 hg8.laid (by have:=hg8.size;omega));have hk9:=(B5.block _ apn).trans (ae HK7);have HK8:=hide hk9;have akc:=hide B5;have Y0:=hide Y6;clear B5 Y6 hx hg8 hk9 a0 a1 a2 b0 b1 b2;go_wp2_with fail;refine (ae HIQ).mono ?_;rintro r w9 ⟨rfl,Lb⟩;have akd:=(ae akc).trans (Lb.mono (ae akc).size);have hk9:=(Lb.block _ (az (ae HK8))).trans (ae HK8);obtain ⟨a0,a1,a2⟩:=aR hk9;have avQ:=az hk9;have UB:=hide akd;clear Lb akd hk9 y2
      cases hq:D9 x.2.2 with
      |false=>
        have wG:=hide (show nI oa ob w9 p p2 _ Ma7 Mb7 s2 s2 w.heap.size/\Below w.heap.size w w9 from ⟨(ae HT7).wide (ae UB),(ae Rw).trans ((ae UB).mono (ae Rw).size)⟩);go_wp2_with fail
        first
        |exact ⟨⟨i+1,_,Ma7,Mb7,s2,by omega,by go_num,wG⟩,by simp [intOf];omega⟩
        | (go_roundw
           case rel=>exact ⟨i+1,_,Ma7,Mb7,s2,by omega,by go_num,wG⟩
           case measure=>simp [intOf];omega)
      |true=>
        have HTD:=hide (Bb (ae HTO hq) w9);unfold rP at HTD;go_wp2_with fail;refine (ae HTD).mono ?_;rintro r Ym ⟨rfl,oC⟩;have wG:=hide (show nI oa ob Ym p p2 _ Ma7 Mb7 s2 s2 w.heap.size/\Below w.heap.size w Ym from ⟨(ae HT7).wide ((ae UB).trans (oC.mono (ae UB).size)),(ae Rw).trans (((ae UB).trans (oC.mono (ae UB).size)).mono (ae Rw).size)⟩);clear oC;go_wp2_with fail
        first
        |exact ⟨⟨i+1,_,Ma7,Mb7,s2,by omega,by go_num,wG⟩,by simp [intOf];omega⟩
        | (go_roundw
           case rel=>exact ⟨i+1,_,Ma7,Mb7,s2,by omega,by go_num,wG⟩
           case measure=>simp [intOf];omega)
  . obtain rfl:i=ops.length:=by omega
    have HB:=hide hB;clear hT hB;go_wp2_with fail;go_ret;exact ⟨rfl,ae HB⟩
end
end Go.Proofs.YteniahoehoncjaaGreatDoor
