import Derived.Test.YteniahoehoncjaaGreatDoorQBL
import Derived.Test.YteniahoehoncjaaGreatDoorQBQ
set_option maxHeartbeats 99999999
set_option maxRecDepth 100000
namespace Go.Proofs.YteniahoehoncjaaGreatDoor
open Go.RowKit
section
open Go.Maps
theorem Ch {w1:World}{r:Nat}{a b c:Value}{t:TypeId}(h:w1.heap[r]?=some (.cells #[a,b,c] t (0,0)))(x y z:Value):(((w1.setCell ⟨r,0,none⟩ x).setCell ⟨r,1,none⟩ y).setCell ⟨r,2,none⟩ z).heap[r]?=some (.cells #[x,y,z] t (0,0)):=
 aO _ _ 2 _ _ _ (aO _ _ 1 _ _ _ (aO _ _ 0 _ _ _ h))
theorem oe {o:rO}{w:World}{p:Nat}{X M:Nat->Prop}{st:ou}(h:One o w p X M st)(hg:qc w){user text:ByteArray}(hu:user.size<=maxLen) :
 Calls Tryz.prog 9 #[.pointer (some ⟨p,0,none⟩),.string user,.string text] w λr w'=>r=.returned (rP (qA o.bud st user text).1)/\(∀q,gP text=.inr q->q.1≠0)/\∃X' M',sP o w w' p X M X' M' (qA o.bud st user text).2:=by
 obtain ⟨W,hW⟩:∃W,W=w.alloc (.cells #[.string ⟨#[]⟩,.int .i64 0,.int .i64 0] 30):=⟨_,rfl⟩;have lK:Below w.heap.size w W:=by rw [hW];exact (ag _ _).alloc (af _) _
 have za:W.heap.size=w.heap.size+1:=by rw [hW];simp
 have hR:W.heap[w.heap.size]?=some (.cells #[.string ⟨#[]⟩,.int .i64 0,.int .i64 0] 30 (0,0)):=by rw [hW];exact ai w _
 have HD:=hide (X8 (h.wide lK) (hg.on (lK.mono hg.size)) (text:=text) hu);have HH:=hide h;have oD:=hide lK;have HW:=hide hW;have HR:=hide hR;have HZ:=hide za;clear h hg lK hW hR za;go_enter Tryz.func9,Tryz.ntmps9;go_wp2_with fail;rw [<- ae HW];refine (ae HD).mono ?_;rintro r w2 ⟨rfl,hq,X2,M2,hG⟩;have hkX:X2 w.heap.size:=hG.more _ (.inr ⟨af _,by rw [ae HZ];omega⟩);have hkM:¬M2 w.heap.size:=λhm=>by
  rcases hG.DF _ hm with e|e
  . have:=(ae HH).nO _ ((ae HH).sub _ e);omega
  . rw [ae HZ] at e;omega
 have ajQ:¬M w.heap.size:=λhm=>by have:=(ae HH).nO _ ((ae HH).sub _ hm);omega
 have yS:=(hG.keep.block w.heap.size ⟨by rw [ae HZ];omega,ajQ⟩).trans (ae HR);obtain ⟨f0,f1,f2⟩:=aR yS;have z0:=lz yS 0;have z1:=lz yS 1;have z2:=lz yS 2;have Kc:=az yS;have HQ:=hide hq;have HG:=hide hG;have HX:=hide hkX;have HM:=hide hkM;have xY:=hide yS;have HN:=hide (aaX ((qA o.bud st user text).1.2.1:Nat) w2);obtain ⟨a,ha⟩:∃a,a=(qA o.bud st user text).1:=⟨_,rfl⟩;rw [<- ha] at HN ⊢;have HA:=hide ha;clear hq hG hkX hkM ajQ yS ha;unfold doV;go_wp2_with fail;refine (ae HN).mono ?_;rintro r w3 ⟨rfl,rfl⟩;go_wp2_with fail;obtain ⟨d0,d1,d2⟩:=aR (Ch (ae xY) (.string ⟨a.1.toArray⟩) (.int .i64 (a.2.1:Nat)) (.int .i64 (a.2.2:Nat)));refine ay (v:=.agg #[.string ⟨a.1.toArray⟩,.int .i64 (a.2.1:Nat),.int .i64 (a.2.2:Nat)]) (by simp [results,Tryz.results9,go_sem,d0,d1,d2];try rfl) rfl ?_;refine ⟨by rw [<- ae HA];rfl,ae HQ,X2,M2,sP.of (ae oD) (ae HG) ?_ (((ae HG).one.set (ae HX) (ae HM)).set (ae HX) (ae HM) |>.set (ae HX) (ae HM)) (λb hx=>hx) (λb hx=>.inl hx)⟩;have hk:¬(λb=>b<w.heap.size) w.heap.size:=bx _;exact (((aQ.refl (λb=>b<w.heap.size) w3).setCell (p:=⟨w.heap.size,0,none⟩) hk _).setCell (p:=⟨w.heap.size,1,none⟩) hk _).setCell (p:=⟨w.heap.size,2,none⟩) hk _
abbrev OpS:=Int×ByteArray×ByteArray
def Yj (x:OpS):List Value:=[.int .i64 x.1,.string x.2.1,.string x.2.2]
noncomputable def vE (st:ou):List OpS->ou
 |[]=>st
 |x::r=>vE (qA 0 st x.2.1 x.2.2).2 r
structure nU where
 seg:Int
 pk:Int
 wd:Int
 prune:Bool
 push:Bool
 bud:Int
def nU.val (f:nU):Value:=.agg #[.int .i64 f.seg,.int .i64 f.pk,.int .i64 f.wd,.bool f.prune,.bool f.push,.int .i64 f.bud]
def nU.opt (f:nU):rO:=rF f.seg f.pk f.wd f.bud f.prune f.push
theorem abd {α:Type}{l:List α}{i:Nat}{x:α}(h:l[i]?=some x):l.drop i=x::l.drop (i+1):=by
 have cF:=(ak.mp h).1;rw [dA cF];congr 1;exact (ak.mp h).2
theorem Ut {st:ou}{b:Nat}{x:OpS}{r:List OpS}:vE st (x::r)=vE (qA b st x.2.1 x.2.2).2 r:=by
 show vE (qA 0 st x.2.1 x.2.2).2 r=_;rw [QB (b:=0) (b':=b)]
theorem One.drewN {o:rO}{w:World}{p:Nat}{X M:Nat->Prop}{st:ou}(h:One o w p X M st)(k:Nat):One o (w.drewN k) p X M st:=
 h.stays (af _) (λ_ _ _=>rfl) (λ_ _=>rfl) (λ_ hx=>hx) (λ_ hx=>.inl hx) (λb hx=>h.nO b hx)
theorem qc.drewN {w:World}(h:qc w)(k:Nat):qc (w.drewN k):=h.on (below_drewN (ag _ _) k)
theorem zF {w:World}{f:nU}{ops:List OpS}{sv:Value}(hg:qc w)(hs:bF w 3 sv ops.length (ops.flatMap Yj))(hl:ops.length<=9000000000000000000)(hu:∀x∈ops,x.2.1.size<=maxLen){X0:Nat->Prop}(hX:∀b,X0 b->b<w.heap.size) :
 Calls Tryz.prog 7 #[f.val,sv] w λr w'=>∃p X M,r=.returned (.pointer (some ⟨p,0,none⟩))/\One f.opt w' p X M (vE ⟨[],[]⟩ ops)/\(∀b,X0 b->X b)/\(∀b,X b->X0 b\/w.heap.size<=b)/\(∀b,M b->w.heap.size<=b)/\Below w.heap.size w w':=by
 obtain ⟨va,cJ,rfl⟩:=bF.slice hs;obtain ⟨seg,pk,wd,prune,push,bud⟩:=f;unfold nU.val;simp only;obtain ⟨W,hW⟩:∃W,W=w.alloc (.cells #[.int .i64 seg,.int .i64 pk,.int .i64 wd,.bool prune,.bool push,.int .i64 bud] 23):=⟨_,rfl⟩;have lK:Below w.heap.size w W:=by rw [hW];exact (ag _ _).alloc (af _) _
 have HO:=hide (sj seg pk wd bud prune push W);have HG:=hide hg;have HS:=hide hs;have HU:=hide hu;have HX0:=hide hX;have oD:=hide lK;have HW:=hide hW;clear hg hs hu hX lK hW;go_enter Tryz.func7,Tryz.ntmps7;go_wp2_with fail;rw [<- ae HW];refine (ae HO).mono ?_;rintro r w1 ⟨rfl,bL⟩;have oq:=(ae oD).trans (bL.mono (ae oD).size);have HN:=hide (D8 seg pk wd bud prune push w1 (X0:=X0) (λb hb=>aF (ae HX0 b hb) oq.size));have eI:=hide oq;clear bL oq;go_wp2_with fail;refine (ae HN).mono ?_;rintro r w2 ⟨p,X2,M2,rfl,qn,D0,CH,hm,bO⟩;have qR:=(ae eI).trans (bO.mono (ae eI).size);have Rp:Hid (One (rF seg pk wd bud prune push) w2 p X2 M2 ⟨[],[]⟩/\(∀b,X0 b->X2 b)/\(∀b,X2 b->X0 b\/w.heap.size<=b)/\(∀b,M2 b->w.heap.size<=b)/\Below w.heap.size w w2):=hide ⟨qn,D0,λb hb=>(CH b hb).imp id (λe=>aw (ae eI).size e),λb hb=>aw (ae eI).size (hm b hb),qR⟩;clear qn D0 CH hm bO qR;go_wp2_with fail;go_loopw [6] (λc wr=>∃(i:Nat) (X M:Nat->Prop) (st:ou),i<=ops.length/\c=.int .i64 i/\Hid (vE ⟨[],[]⟩ ops=vE st (ops.drop i))/\Hid (One (rF seg pk wd bud prune push) wr p X M st/\(∀b,X0 b->X b)/\(∀b,X b->X0 b\/w.heap.size<=b)/\(∀b,M b->w.heap.size<=b)/\Below w.heap.size w wr)) (λc _=>ops.length - (intOf c).toNat)
 case atStart=>exact ⟨0,X2,M2,⟨[],[]⟩,aN _,rfl,hide rfl,Rp⟩
 case round=>
  obtain ⟨i,X,M,st,hi,rfl,HP,HL⟩:=hrel;obtain ⟨qn,D0,CH,hm,hB⟩:=ae HL;have kd:=hB.size;by_cases cF:i<ops.length
  . have jI:(i:Int)<ops.length:=by omega
    obtain ⟨x,Oc⟩:∃x,ops[i]?=some x:=⟨_,ah cF⟩;obtain ⟨vg,vo,AW,he,-,hvg,hx⟩:=bF.at (bF.below (ae HS) hB (af _)) (by omega)
    cases he
    have x1:wr.cell? ⟨vg,vo+i*3+1,none⟩=some (.string x.2.1):=hx (i*3+1) _ (dc Yj 3 (λ_=>rfl) ops Oc (j:=1) (by decide));have x2:wr.cell? ⟨vg,vo+i*3+2,none⟩=some (.string x.2.2):=hx (i*3+2) _ (dc Yj 3 (λ_=>rfl) ops Oc (j:=2) (by decide));have HP2:Hid (vE ⟨[],[]⟩ ops=vE (qA (rF seg pk wd bud prune push).bud st x.2.1 x.2.2).2 (ops.drop (i+1))):=hide (by rw [ae HP,abd Oc];exact Ut);have HD:=hide (λk=>X8 (qn.drewN k) (((ae HG).on (hB.mono (ae HG).size)).drewN k) (text:=x.2.2) (ae HU x (aG Oc)));clear qn D0 CH hm hB hx Oc;go_wp2_with fail;go_region_with (go_at_call 15;refine (ae HD _).mono ?_;rintro e w3 ⟨rfl,hq,X3,M3,hG⟩;have UI:=hide hG;clear hq hG)
    all_goals
     (try go_wp2_with fail)
     have HR:Hid (One (rF seg pk wd bud prune push) w3 p X3 M3 (qA (rF seg pk wd bud prune push).bud st x.2.1 x.2.2).2/\(∀b,X0 b->X3 b)/\(∀b,X3 b->X0 b\/w.heap.size<=b)/\(∀b,M3 b->w.heap.size<=b)/\Below w.heap.size w w3):=hide (by
      obtain ⟨qn,D0,CH,hm,hB⟩:=ae HL;have hG:=ae UI;refine ⟨hG.one,λb hb=>hG.more b (D0 b hb),λb hb=>?_,hG.XZ hm kd,(below_drewN hB _).trans (hG.below hm kd)⟩;rcases hG.grows b hb with e|e
      . exact CH b e
      . exact .inr (aw kd e))
     exact ⟨⟨i+1,X3,M3,_,by omega,by go_num,HP2,HR⟩,by simp [intOf];omega⟩
  . obtain rfl:i=ops.length:=by omega
    have HP2:Hid (vE ⟨[],[]⟩ ops=st):=hide (by rw [ae HP,iO];rfl);clear qn D0 CH hm hB;go_wp2_with fail;go_ret;obtain ⟨qn,D0,CH,hm,hB⟩:=ae HL;exact ⟨p,X,M,rfl,by rw [ae HP2];exact qn,D0,CH,hm,hB⟩
theorem Ci {w:World}(f:nU)(hg:qc w):Calls Tryz.prog 6 #[f.val] w λr w'=>r=.returned (.bool true)/\Below w.heap.size w w':=by
 obtain ⟨seg,pk,wd,prune,push,bud⟩:=f;unfold nU.val;simp only;obtain ⟨W,hW⟩:∃W,W=w.alloc (.cells #[.int .i64 seg,.int .i64 pk,.int .i64 wd,.bool prune,.bool push,.int .i64 1000] 23):=⟨_,rfl⟩;have lK:Below w.heap.size w W:=by rw [hW];exact (ag _ _).alloc (af _) _
 have HO:=hide (sj seg pk wd 1000 prune push W);have HG:=hide hg;have oD:=hide lK;have HW:=hide hW;clear hg lK hW;go_enter Tryz.func6,Tryz.ntmps6;go_wp2_with fail;rw [<- ae HW];refine (ae HO).mono ?_;rintro r w1 ⟨rfl,bL⟩;have oq:=(ae oD).trans (bL.mono (ae oD).size);have HN:=hide (D8 seg pk wd 1000 prune push w1 (X0:=λ_=>False) (λb hb=>hb.elim));have eI:=hide oq;clear bL oq;go_wp2_with fail;refine (ae HN).mono ?_;rintro r w2 ⟨p,X2,M2,rfl,qn,-,-,hm,bO⟩;have qR:=(ae eI).trans (bO.mono (ae eI).size);have hm2:∀b,M2 b->w.heap.size<=b:=λb hb=>aw (ae eI).size (hm b hb);have qF:=(ae HG).on (qR.mono (ae HG).size);have HA:=hide (oe qn qF (user:=gZ) (text:=aT) (by decide));rw [show (rF seg pk wd 1000 prune push).bud=1000 from rfl,show (⟨[],[]⟩:ou)=st0 from rfl,ao2] at HA;have Q9:=hide hm2;have jg:=hide qR;unfold gZ aT at HA;clear qn hm bO qR hm2 qF;go_wp2_with fail;refine (ae HA).mono ?_;rintro r w3 ⟨rfl,-,X3,M3,Hp⟩;obtain ⟨W3,TS⟩:∃W3,W3=w3.alloc (.cells #[.string ⟨#[]⟩,.int .i64 0,.int .i64 0] 30):=⟨_,rfl⟩;have eD:Below w3.heap.size w3 W3:=by rw [TS];exact (ag _ _).alloc (af _) _
 have hz3:W3.heap.size=w3.heap.size+1:=by rw [TS];simp
 have tq:W3.heap[w3.heap.size]?=some (.cells #[.string ⟨#[]⟩,.int .i64 0,.int .i64 0] 30 (0,0)):=by rw [TS];exact ai w3 _
 have hm3:=Hp.XZ (ae Q9) (ae jg).size;have vN:Below w.heap.size w W3:=((ae jg).trans (Hp.below (ae Q9) (ae jg).size)).trans (eD.mono (aw (ae jg).size Hp.keep.size));have hn3:¬M3 w3.heap.size:=λhm=>by have:=Hp.one.nO _ (Hp.one.sub _ hm);omega
 have NT:=(ae HG).on (vN.mono (ae HG).size);have rE:=hide (oe (Hp.one.wide eD) NT (user:=gZ) (text:=bT) (by decide));rw [show (rF seg pk wd 1000 prune push).bud=1000 from rfl,ao3] at rE;unfold gZ bT at rE;have IJ:=hide hm3;have px:=hide vN;have Bi:=hide tq;have HN3:=hide hn3;have HZ3:=hide hz3;have Gq:=hide TS;unfold rP;clear Hp eD hz3 tq hm3 vN hn3 NT TS;go_wp2_with fail;rw [<- ae Gq];refine (ae rE).mono ?_;rintro r w4 ⟨rfl,-,X4,M4,Kx⟩;obtain ⟨W4,hW4⟩:∃W4,W4=w4.alloc (.cells #[.string ⟨#[]⟩,.int .i64 0,.int .i64 0] 30):=⟨_,rfl⟩;have me:Below w4.heap.size w4 W4:=by rw [hW4];exact (ag _ _).alloc (af _) _
 have hz4:W4.heap.size=w4.heap.size+1:=by rw [hW4];simp
 have Yk:=Kx.keep.size;have Jt:W4.heap[w4.heap.size]?=some (.cells #[.string ⟨#[]⟩,.int .i64 0,.int .i64 0] 30 (0,0)):=by rw [hW4];exact ai w4 _
 have ajR:W4.heap[w3.heap.size]?=some (.cells #[.string ⟨#[]⟩,.int .i64 0,.int .i64 0] 30 (0,0)):=(me.block _ (by rw [ae HZ3] at Yk;omega)).trans ((Kx.keep.block _ ⟨by rw [ae HZ3];omega,ae HN3⟩).trans (ae Bi));have Y1:=Kx.XZ (ae IJ) (ae px).size;have KW:Below w.heap.size w W4:=((ae px).trans (Kx.below (ae IJ) (ae px).size)).trans (me.mono (aw (ae px).size Kx.keep.size));have hn4:¬M4 w4.heap.size:=λhm=>by have:=Kx.one.nO _ (Kx.one.sub _ hm);omega
 have ajT:¬M4 w3.heap.size:=λhm=>by
  rcases Kx.DF _ hm with e|e
  . exact ae HN3 e
  . rw [ae HZ3] at e;omega
 have N8:=(ae HG).on (KW.mono (ae HG).size);have yE:=hide (oe (Kx.one.wide me) N8 (user:=gZ) (text:=cT) (by decide));rw [show (rF seg pk wd 1000 prune push).bud=1000 from rfl,ao4] at yE;unfold gZ cT at yE;have HM4:=hide Y1;have DP:=hide KW;have Cq:=hide (And.intro Jt ajR);have HN4:=hide (And.intro hn4 ajT);have HZ4:=hide hz4;have ao5:=hide (show w3.heap.size<w4.heap.size from by rw [ae HZ3] at Yk;omega);have K5:=hide hW4;clear Kx me hz4 Jt ajR Y1 KW hn4 ajT N8 hW4 Yk;unfold rP;go_wp2_with fail;rw [<- ae K5];refine (ae yE).mono ?_;rintro r w5 ⟨rfl,-,X5,M5,QC⟩;have ao6:=QC.keep.size;have hz4:=ae HZ4;have Yk:=ae ao5;obtain ⟨W5,DX⟩:∃W5,W5=w5.alloc (.cells #[.string ⟨xe.toArray⟩,.int .i64 0,.int .i64 0] 30):=⟨_,rfl⟩;have vz:Below w5.heap.size w5 W5:=by rw [DX];exact (ag _ _).alloc (af _) _
 have Ob:W5.heap[w5.heap.size]?=some (.cells #[.string ⟨xe.toArray⟩,.int .i64 0,.int .i64 0] 30 (0,0)):=by rw [DX];exact ai w5 _
 have afl:=(QC.keep.block w4.heap.size ⟨by omega,(ae HN4).1⟩).trans (ae Cq).1;have afm:=(QC.keep.block w3.heap.size ⟨by omega,(ae HN4).2⟩).trans (ae Cq).2;have KV:Below w.heap.size w W5:=((ae DP).trans (QC.below (ae HM4) (ae DP).size)).trans (vz.mono (aw (ae DP).size QC.keep.size));have HSB:=hide (Ba (xe,0,0) (xe,0,0) W5);rw [bu rfl] at HSB;obtain ⟨a0,a1,a2⟩:=aR afm;obtain ⟨b0,b1,b2⟩:=aR afl;have hl3:=az afm;have hl4:=az afl;have vR:=hide KV;have YR:=hide DX;unfold rP xe at HSB;unfold xe at YR;clear QC ao6 hz4 Yk vz Ob afl afm KV DX;unfold rP xe;go_wp2_with fail;rw [<- ae YR];refine (ae HSB).mono ?_;rintro r w6 ⟨rfl,Gz⟩;have vS:=hide ((ae vR).trans (Gz.mono (ae vR).size));clear Gz;go_wp2_with fail;go_ret;exact ⟨rfl,ae vS⟩
theorem One.told {o:rO}{w:World}{p:Nat}{X M:Nat->Prop}{st:ou}(h:One o w p X M st):RQ st:=by
 obtain ⟨mt,mg,tl,gl,h,rfl,-⟩:=h;exact h.fits
theorem om {w1:World}{r:Nat}{a b c d e f:Value}{t:TypeId}(h:w1.heap[r]?=some (.cells #[a,b,c,d,e,f] t (0,0))) :
 w1.cell? ⟨r,0,none⟩=some a/\w1.cell? ⟨r,1,none⟩=some b/\w1.cell? ⟨r,2,none⟩=some c/\w1.cell? ⟨r,3,none⟩=some d/\w1.cell? ⟨r,4,none⟩=some e/\w1.cell? ⟨r,5,none⟩=some f:=by
 simp [World.cell?,h]
theorem tX {o:rO}{w w2:World}{p:Nat}{X M X2 M2:Nat->Prop}{st:ou}{lo:Nat}(hM:∀b,M b->lo<=b)(hl:lo<=w.heap.size)(hG:sP o w w2 p X M X2 M2 st)(ob:Obj):Below lo w (w2.alloc ob)/\(∀b,M2 b->lo<=b)/\¬M2 w2.heap.size/\w2.heap.size<(w2.alloc ob).heap.size/\One o (w2.alloc ob) p (λb=>X2 b\/(w2.heap.size<=b/\b<(w2.alloc ob).heap.size)) M2 st/\(∀k,k<w.heap.size->¬M k->(w2.alloc ob).heap[k]?=w.heap[k]?/\¬M2 k):=by
 have hb:Below w2.heap.size w2 (w2.alloc ob):=(ag _ _).alloc (af _) _;have hs:=hG.keep.size;refine ⟨(hG.below hM hl).trans (hb.mono (by omega)),hG.XZ hM hl,λhm=>?_,by simp,hG.one.wide hb,λk hk hn=>⟨(hb.block k (by omega)).trans (hG.keep.block k ⟨hk,hn⟩),λhm=>?_⟩⟩
 . have:=hG.one.nO _ (hG.one.sub _ hm);omega
 . rcases hG.DF k hm with e|e
   . exact hn e
   . omega
theorem NK {w:World}{f:nU}{ops:List OpS}{sv:Value}{user text C0 query:ByteArray}(hg:qc w)(hs:bF w 3 sv ops.length (ops.flatMap Yj))(hl:ops.length<=9000000000000000000)(hu:∀x∈ops,x.2.1.size<=maxLen)(Pe:user.size<=maxLen)(has:C0.size<=maxLen) :
 Calls Tryz.prog 3 #[f.val,sv,.string user,.string text,.string C0,.string query] w λr w'=>r=.returned (.bool true)/\Below w.heap.size w w':=by
 obtain ⟨va,cJ,rfl⟩:=bF.slice hs;obtain ⟨seg,pk,wd,prune,push,bud⟩:=f;have Uu:nU.val ⟨seg,pk,wd,prune,push,bud⟩=.agg #[.int .i64 seg,.int .i64 pk,.int .i64 wd,.bool prune,.bool push,.int .i64 bud]:=rfl;obtain ⟨f,hf⟩:∃f:nU,f=⟨seg,pk,wd,prune,push,bud⟩:=⟨_,rfl⟩;rw [<- hf] at Uu ⊢;obtain ⟨W,hW⟩:∃W,W=w.alloc (.cells #[.int .i64 seg,.int .i64 pk,.int .i64 wd,.bool prune,.bool push,.int .i64 bud] 23):=⟨_,rfl⟩;have lK:Below w.heap.size w W:=by rw [hW];exact (ag _ _).alloc (af _) _
 have Vb:W.heap[w.heap.size]?=some (.cells #[.int .i64 seg,.int .i64 pk,.int .i64 wd,.bool prune,.bool push,.int .i64 bud] 23 (0,0)):=by rw [hW];exact ai w _
 have qK:=hide (Ci f (hg.on (lK.mono hg.size)));have HG:=hide hg;have HS:=hide hs;have HU:=hide hu;have oD:=hide lK;have HW:=hide hW;have HKW:=hide Vb;have hlW:=az Vb;rw [Uu] at qK ⊢;have HFV:=hide Uu;clear hg hs hu lK hW Vb hf Uu;go_enter Tryz.func3,Tryz.ntmps3;go_wp2_with fail;rw [<- ae HW];refine (ae qK).mono ?_;rintro r w1 ⟨rfl,bL⟩;have oq:=(ae oD).trans (bL.mono (ae oD).size);have nN:=(bL.block _ hlW).trans (ae HKW);obtain ⟨j0,j1,j2,j3,j4,j5⟩:=om nN;have Db:=az nN;have C5:=(ae HG).on (oq.mono (ae HG).size);have HPL:=hide (zF (f:=f) C5 (bF.below (ae HS) oq (af _)) hl (ae HU) (X0:=λ_=>False) (λb hb=>hb.elim));rw [ae HFV] at HPL;have eI:=hide oq;clear bL oq nN C5;go_wp2_with fail;refine (ae HPL).mono ?_;rintro r w2 ⟨p,X2,M2,rfl,qn,-,-,hm,bO⟩;have qR:=(ae eI).trans (bO.mono (ae eI).size);have hm2:∀b,M2 b->w.heap.size<=b:=λb hb=>aw (ae eI).size (hm b hb);have qF:=(ae HG).on (qR.mono (ae HG).size);have HQ:=hide (sq query w2 qF.laid (by have:=qF.size;omega));have ug:=hide qn;have Q9:=hide hm2;have jg:=hide qR;clear qn hm bO qR hm2 qF j0 j1 j2 j3 j4 j5;go_wp2_with fail;refine (ae HQ).mono ?_;rintro r w3 ⟨rfl,eD⟩;have vN:=(ae jg).trans (eD.mono (ae jg).size)
 cases hq:D9 query with
 |false=>
   have px:=hide vN;clear eD vN;go_wp2_with fail;go_ret;exact ⟨rfl,ae px⟩
 |true=>
   have NT:=(ae HG).on (vN.mono (ae HG).size);obtain ⟨st,iP⟩:∃st,st=vE ⟨[],[]⟩ ops:=⟨_,rfl⟩;rw [<- iP] at ug;have K6:=(ae ug).wide eD;have HTA:=hide (uX (bud:=f.opt.bud) K6.told hq has);have HA:=hide (oe K6 NT (user:=C0) (text:=query) has);have HQS:=hide (rI (bud:=f.opt.bud) (st:=st) (user:=C0) hq);rw [ae HQS] at HA;have Ez:=hide K6;have px:=hide vN;clear eD vN NT K6 iP;go_wp2_with fail;refine (ae HA).mono ?_;rintro r w4 ⟨rfl,-,X4,M4,Kx⟩;obtain ⟨A,hA⟩:∃A,A=(qA f.opt.bud st C0 query).1:=⟨_,rfl⟩;rw [<- hA] at HTA ⊢;have Gr:=hide hA;obtain ⟨KW,Y1,hn4,hl4,ho4,-⟩:=tX (ae Q9) (ae px).size Kx (.cells #[.string ⟨A.1.toArray⟩,.int .i64 (A.2.1:Nat),.int .i64 (A.2.2:Nat)] 30);have Jt:=ai w4 (.cells #[.string ⟨A.1.toArray⟩,.int .i64 (A.2.1:Nat),.int .i64 (A.2.2:Nat)] 30);obtain ⟨W4,hW4⟩:∃W4,W4=w4.alloc (.cells #[.string ⟨A.1.toArray⟩,.int .i64 (A.2.1:Nat),.int .i64 (A.2.2:Nat)] 30):=⟨_,rfl⟩;rw [<- hW4] at KW hl4 ho4 Jt;have DP:=hide ((ae px).trans KW);have N8:=(ae HG).on ((ae DP).mono (ae HG).size);have HE:=hide (oe ho4 N8 (user:=user) (text:=text) Pe);have HO4:=hide ho4;have HM4:=hide Y1;have HN4:=hide hn4;have Cq:=hide Jt;have K5:=hide hW4;unfold rP;clear Kx hA KW Y1 hn4 ho4 Jt hW4 N8;go_wp2_with fail;rw [<- ae K5];refine (ae HE).mono ?_;rintro r w5 ⟨rfl,Hj,X5,M5,QC⟩;obtain ⟨E,hE⟩:∃E,E=qA f.opt.bud st user text:=⟨_,rfl⟩;rw [<- hE] at QC ⊢;have HEE:=hide hE;have HQ0:=hide Hj;obtain ⟨KV,Xq,hn5,hl5,UJ,afn⟩:=tX (ae HM4) (ae DP).size QC (.cells #[.string ⟨E.1.1.toArray⟩,.int .i64 (E.1.2.1:Nat),.int .i64 (E.1.2.2:Nat)] 30);have Ob:=ai w5 (.cells #[.string ⟨E.1.1.toArray⟩,.int .i64 (E.1.2.1:Nat),.int .i64 (E.1.2.2:Nat)] 30);obtain ⟨W5,DX⟩:∃W5,W5=w5.alloc (.cells #[.string ⟨E.1.1.toArray⟩,.int .i64 (E.1.2.1:Nat),.int .i64 (E.1.2.2:Nat)] 30):=⟨_,rfl⟩;rw [<- DX] at KV hl5 UJ Ob afn;have afo:=afn _ hl4 (ae HN4);have Yl:=hide (And.intro (afo.1.trans (ae Cq)) afo.2);have vR:=hide ((ae DP).trans KV);have zG:=(ae HG).on ((ae vR).mono (ae HG).size);have HBQ:=hide (oe UJ zG (user:=C0) (text:=query) has);rw [rI (bud:=f.opt.bud) (st:=E.2) (user:=C0) hq] at HBQ;have HM5:=hide Xq;have HN5:=hide hn5;have Y3:=hide Ob;have ajX:=hide (show w4.heap.size<W5.heap.size from az (ae Yl).1);have YR:=hide DX;unfold rP;clear QC hE KV Xq hn5 UJ Ob DX zG afn afo Hj;go_wp2_with fail;rw [<- ae YR];refine (ae HBQ).mono ?_;rintro r w6 ⟨rfl,-,X6,M6,U2⟩;obtain ⟨B,hBB⟩:∃B,B=(qA f.opt.bud E.2 C0 query).1:=⟨_,rfl⟩;rw [<- hBB];have HBE:=hide hBB;obtain ⟨Np,-,-,-,-,QD⟩:=tX (ae HM5) (ae vR).size U2 (.cells #[.string ⟨B.1.toArray⟩,.int .i64 (B.2.1:Nat),.int .i64 (B.2.2:Nat)] 30);have RL:=ai w6 (.cells #[.string ⟨B.1.toArray⟩,.int .i64 (B.2.1:Nat),.int .i64 (B.2.2:Nat)] 30);obtain ⟨W6,RJ⟩:∃W6,W6=w6.alloc (.cells #[.string ⟨B.1.toArray⟩,.int .i64 (B.2.1:Nat),.int .i64 (B.2.2:Nat)] 30):=⟨_,rfl⟩;rw [<- RJ] at Np RL QD;have NL:=(QD _ (ae ajX) (ae Yl).2).1.trans (ae Yl).1;have afq:=(QD _ hl5 (ae HN5)).1.trans (ae Y3);have vS:=hide ((ae vR).trans Np);have ym:=hide (λwr (hb:Below W6.heap.size W6 wr)=>(show (wr.cell? ⟨w4.heap.size,0,none⟩=some (.string ⟨A.1.toArray⟩)/\wr.cell? ⟨w4.heap.size,1,none⟩=some (.int .i64 (A.2.1:Nat))/\wr.cell? ⟨w4.heap.size,2,none⟩=some (.int .i64 (A.2.2:Nat)))/\(wr.cell? ⟨w5.heap.size,0,none⟩=some (.string ⟨E.1.1.toArray⟩)/\wr.cell? ⟨w5.heap.size,1,none⟩=some (.int .i64 (E.1.2.1:Nat))/\wr.cell? ⟨w5.heap.size,2,none⟩=some (.int .i64 (E.1.2.2:Nat)))/\(wr.cell? ⟨w6.heap.size,0,none⟩=some (.string ⟨B.1.toArray⟩)/\wr.cell? ⟨w6.heap.size,1,none⟩=some (.int .i64 (B.2.1:Nat))/\wr.cell? ⟨w6.heap.size,2,none⟩=some (.int .i64 (B.2.2:Nat)))/\w4.heap.size<wr.heap.size/\w5.heap.size<wr.heap.size/\w6.heap.size<wr.heap.size/\Below w.heap.size w wr from by
    have hA:=(hb.block _ (az NL)).trans NL;have hE:=(hb.block _ (az afq)).trans afq;have hB:=(hb.block _ (az RL)).trans RL;exact ⟨aR hA,aR hE,aR hB,az hA,az hE,az hB,(ae vS).trans (hb.mono (ae vS).size)⟩))
   have HTO:=hide (Bb (ae HTA) W6);have HW6:=hide RJ;have hkw:=(U2.keep.block w4.heap.size ⟨ae ajX,(ae Yl).2⟩).trans (ae Yl).1;obtain ⟨x0,x1,x2⟩:=aR hkw;have U3:=az hkw;unfold rP at HTO ⊢;clear U2 hBB Np RL QD NL afq RJ hkw;go_wp2_with fail;rw [<- ae HW6];refine (ae HTO).mono ?_;rintro r w7 ⟨rfl,Pw⟩;obtain ⟨-,-,-,-,-,-,U6⟩:=ae ym w7 Pw;have hg7:=(ae HG).on (U6.mono (ae HG).size);have Gs:=hide (JE text w7 hg7.laid (by have:=hg7.size;omega));have afr:=hide Pw;clear Pw U6 hg7 x0 x1 x2 U3;go_wp2_with fail;refine (ae Gs).mono ?_;rintro r w8 ⟨⟨a0,a1,a2,a3,a4,p5,n5,c5,p6,n6,c6,p7,n7,c7,a8,p9,n9,c9,U8,U9,Va,ee,eb,rfl,hqq,kH⟩,B5⟩;obtain ⟨W8,hW8⟩:∃W8,W8=w8.alloc (.cells #[.string a0,.string a1,.int .i64 a2,.string a3,.int .i64 a4,.slice p5 n5 c5,.slice p6 n6 c6,.slice p7 n7 c7,.int .i64 a8,.slice p9 n9 c9,.slice U8 U9 Va] 41):=⟨_,rfl⟩;have Uv:Below W6.heap.size W6 W8:=by rw [hW8];exact ((ae afr).trans (B5.mono (ae afr).size)).alloc (aw (ae afr).size B5.size) _
   obtain ⟨-,-,-,-,-,-,Y6⟩:=ae ym W8 Uv;have hg8:=(ae HG).on (Y6.mono (ae HG).size);have HOW:=hide (sq text W8 hg8.laid (by have:=hg8.size;omega));have ajY:=hide Uv;have HW8:=hide hW8;have ZC:=hide kH;clear hqq kH B5 Uv Y6 hg8 hW8;go_wp2_with fail;rw [<- ae HW8];refine (ae HOW).mono ?_;rintro r w9 ⟨rfl,Lb⟩;have ajZ:=(ae ajY).trans (Lb.mono (ae ajY).size);obtain ⟨⟨x0,x1,x2⟩,⟨y0,y1,y2⟩,⟨z0,z1,z2⟩,l4,l5,l6,hB9⟩:=ae ym w9 ajZ;have Ii:=hide hB9;have Bf:=hide (Ba A B w9);have Uw:(user.toList==[97,100,109,105,110])=kh user gZ:=dx _ _;have HAB:Hid (E.2=st->A=B):=hide (λh=>by rw [ae Gr,ae HBE,h]);have HES:Hid (E.1.2.1≠0->E.2=st):=hide (λh=>by rw [ae HEE] at h ⊢;exact QA h);clear Lb ajZ hB9;have HTX:Hid (D9 text=false->kh user gZ=false->(E.1=([],4,0)/\ee=0)\/(ee≠0/\E.1.2.1≠0)):=hide (λh1 h2=>by
    rcases ae ZC with ⟨c,hc,he⟩|hc
    . exact .inl ⟨by rw [ae HEE];exact afh hc h1 h2,he⟩
    . refine .inr ⟨ae HQ0 _ hc,?_⟩
      rw [ae HEE];by_cases acH:300<text.size
      . unfold qA
        rw [aH acH];simp
      . rw [AX acH hc]
        exact ae HQ0 _ hc)
   unfold rP at Bf
   cases br:D9 text with
   |true=>
     have hAB:=ae HAB (by rw [ae HEE];exact rI br);subst hAB;rw [bu rfl] at Bf
     cases hb:kh user gZ with
     |true=>
       rw [hb] at Uw;by_cases Y7:E.1.2.1=0
       . rw [Y7] at y1
         go_wp2_with fail;refine (ae Bf).mono ?_;rintro r Ym ⟨rfl,oC⟩;have xg:=hide ((ae Ii).trans (oC.mono (ae Ii).size));clear oC;go_wp2_with fail;go_ret;exact ⟨rfl,ae xg⟩
       . have abg:(((E.1.2.1:Nat):Int)==0)=false:=by rw [aj];omega
         go_wp2_with fail;refine (ae Bf).mono ?_;rintro r Ym ⟨rfl,oC⟩;have xg:=hide ((ae Ii).trans (oC.mono (ae Ii).size));clear oC;go_wp2_with fail;go_ret;exact ⟨rfl,ae xg⟩
     |false=>
       rw [hb] at Uw;by_cases hee:ee=0
       . subst hee
         by_cases Y7:E.1.2.1=0
         . rw [Y7] at y1
           go_wp2_with fail;refine (ae Bf).mono ?_;rintro r Ym ⟨rfl,oC⟩;have xg:=hide ((ae Ii).trans (oC.mono (ae Ii).size));clear oC;go_wp2_with fail;go_ret;exact ⟨rfl,ae xg⟩
         . have abg:(((E.1.2.1:Nat):Int)==0)=false:=by rw [aj];omega
           go_wp2_with fail;refine (ae Bf).mono ?_;rintro r Ym ⟨rfl,oC⟩;have xg:=hide ((ae Ii).trans (oC.mono (ae Ii).size));clear oC;go_wp2_with fail;go_ret;exact ⟨rfl,ae xg⟩
       . have apc:((ee:Int)==0)=false:=by rw [aj];omega
         by_cases Y7:E.1.2.1=0
         . rw [Y7] at y1
           go_wp2_with fail;refine (ae Bf).mono ?_;rintro r Ym ⟨rfl,oC⟩;have xg:=hide ((ae Ii).trans (oC.mono (ae Ii).size));clear oC;go_wp2_with fail;go_ret;exact ⟨rfl,ae xg⟩
         . have abg:(((E.1.2.1:Nat):Int)==0)=false:=by rw [aj];omega
           go_wp2_with fail;refine (ae Bf).mono ?_;rintro r Ym ⟨rfl,oC⟩;have xg:=hide ((ae Ii).trans (oC.mono (ae Ii).size));clear oC;go_wp2_with fail;go_ret;exact ⟨rfl,ae xg⟩
   |false=>
     cases hb:kh user gZ with
     |true=>
       rw [hb] at Uw;by_cases Y7:E.1.2.1=0
       . rw [Y7] at y1
         go_wp2_with fail;go_ret;exact ⟨qd (by first|rfl|exact Uw|simp [Uw]),ae Ii⟩
       . have abg:(((E.1.2.1:Nat):Int)==0)=false:=by rw [aj];omega
         have hAB:=ae HAB (ae HES Y7);subst hAB;rw [bu rfl] at Bf;go_wp2_with fail;refine (ae Bf).mono ?_;rintro r Ym ⟨rfl,oC⟩;have xg:=hide ((ae Ii).trans (oC.mono (ae Ii).size));clear oC;go_wp2_with fail;go_ret;exact ⟨rfl,ae xg⟩
     |false=>
       rw [hb] at Uw;rcases ae HTX br hb with ⟨hE4,rfl⟩|⟨hee,Y7⟩
       . have hAB:=ae HAB (ae HES (by rw [hE4];decide))
         subst hAB;rw [bu rfl] at Bf;rw [hE4] at y1 y2;go_wp2_with fail;refine (ae Bf).mono ?_;rintro r Ym ⟨rfl,oC⟩;have xg:=hide ((ae Ii).trans (oC.mono (ae Ii).size));clear oC;go_wp2_with fail;go_ret;exact ⟨rfl,ae xg⟩
       . have apc:((ee:Int)==0)=false:=by rw [aj];omega
         have abg:(((E.1.2.1:Nat):Int)==0)=false:=by rw [aj];omega
         have hAB:=ae HAB (ae HES Y7);subst hAB;rw [bu rfl] at Bf;go_wp2_with fail;refine (ae Bf).mono ?_;rintro r Ym ⟨rfl,oC⟩;have xg:=hide ((ae Ii).trans (oC.mono (ae Ii).size));clear oC;go_wp2_with fail;go_ret;exact ⟨rfl,ae xg⟩
end
end Go.Proofs.YteniahoehoncjaaGreatDoor
