import Derived.Test.YteniahoehoncjaaGreatDoorQBI
import Derived.Test.YteniahoehoncjaaGreatDoorQBJ
import Derived.Test.YteniahoehoncjaaGreatDoorQBK
set_option maxHeartbeats 99999999
set_option maxRecDepth 100000
namespace Go.Proofs.YteniahoehoncjaaGreatDoor
open Go.RowKit
section
open Go.Maps
theorem Nu {o:rO}{w:World}{p mt mg:Nat}{X:Nat->Prop}{tl:List (Lit×fF)}{gl:List (Lit×ng)}(h:cx o w p mt mg X tl gl){user:ByteArray}(hu:user.size<=maxLen){pl:Nat}{t:Nm}(ht:mN t){v:Value}{ss:List gV}(hv:bF w 1 v ss.length (ss.map λs:gV=>kZ s.pl))(hk:oL w)(hp:rW w) :
 Calls Tryz.prog 24 #[.pointer (some ⟨p,0,none⟩),.string user,.iface 109 (.agg #[.int .i64 pl,.string t.1,.int .i64 t.2,v])] w λr w'=>r=.returned (aaK (kY o.bud (cw tl gl) user pl t ss))/\Below w.heap.size w w':=by
 have ta1:∀w,(Instr.typeAssert (.iface 109 (.agg #[.int .i64 pl,.string t.1,.int .i64 t.2,v])) 70 109 true).run Tryz.prog w=.ok (.tuple #[.agg #[.int .i64 pl,.string t.1,.int .i64 t.2,v],.bool true]) w:=λw=>by kernel_rfl
 obtain ⟨va,cJ,rfl⟩:=bF.slice hv;obtain ⟨W,hW⟩:∃W,W=(w.alloc (.cells #[.int .i64 0,.int .i64 0] 72)).alloc (.cells #[.int .i64 pl,.string t.1,.int .i64 t.2,.slice va ss.length cJ] 109):=⟨_,rfl⟩;have lK:Below w.heap.size w W:=by rw [hW];exact ((ag _ _).alloc (af _) _).alloc (by simp) _
 have za:W.heap.size=w.heap.size+2:=by rw [hW];simp
 have hR:W.heap[w.heap.size]?=some (.cells #[.int .i64 0,.int .i64 0] 72 (0,0)):=by rw [hW];exact (dX _ _ (by simp)).trans (ai w _)
 have HA:=hide (P7 (h.below lK) hu (pl:=pl) ht (bF.below hv lK (af _)) (hk.below lK (af _)) (hp.below lK (af _)));have oD:=hide lK;have HW:=hide hW;have HR:=hide hR;have NY:=az hR;clear h lK hW hR hv hk hp;go_enter Tryz.func24,Tryz.ntmps24;go_wp2_with fail;rw [<- ae HW];refine (ae HA).mono ?_;rintro r w2 ⟨rfl,bO⟩;obtain ⟨a,ha⟩:∃a,a=kY o.bud (cw tl gl) user pl t ss:=⟨_,rfl⟩;rw [<- ha];have yS:=(bO.block _ NY).trans (ae HR);have r6:=hide ((ae oD).trans (bO.mono (ae oD).size));obtain ⟨g0,g1⟩:=bj yS;have y0:=lz yS 0;have y1:=lz yS 1;have Kc:=az yS;have xY:=hide yS;have Gr:=hide ha;clear bO yS ha;go_wp2_with fail;obtain ⟨⟨d0,d1⟩,d2⟩:=eX (ae r6) (af _) (ae xY) (.int .i64 (a.2.1:Nat)) (.int .i64 (a.2.2:Nat));refine ay (v:=.tuple #[.string ⟨a.1.toArray⟩,.agg #[.int .i64 (a.2.1:Nat),.int .i64 (a.2.2:Nat)]]) (by simp [results,Tryz.results24,go_sem,d0,d1];try rfl) rfl ?_;exact ⟨by rw [<- ae Gr];rfl,d2⟩
theorem tU {b:Bool}{a a':Tq}{s s':ou}:(if b then (a,s) else (a',s'))=(if b then a else a',if b then s else s'):=by cases b<;>rfl
theorem xc {bud:Nat}{st:ou}{user:ByteArray}{c:xZ}(hq:∀ss,c≠.query ss):qs bud st user c=(if kh user gZ then ([],(km st c).1.1,(km st c).1.2) else ([],4,0),if kh user gZ then (km st c).2 else st):=by
 cases c with
 |query ss=>exact absurd rfl (hq ss)
 |create t cols=>exact tU
 |drop t=>exact tU
 |load t rows=>exact tU
 |wu u t cs e pl=>exact tU
 |uw u t=>exact tU
theorem DB (v:Value)(w:World):(Instr.typeAssert (.iface 166 v) 70 109 true).run Tryz.prog w=.ok (.tuple #[.agg #[.int .i64 0,.string ⟨#[]⟩,.int .i64 0,.slice none 0 0],.bool false]) w:=by kernel_rfl
theorem Ce (v:Value)(w:World):(Instr.typeAssert (.iface 166 v) 70 112 true).run Tryz.prog w=.ok (.tuple #[.iface 166 v,.bool true]) w:=by kernel_rfl
theorem T7 (v:Value)(w:World):Sem.run Tryz.prog (method 519 166 v "quarry/quarry.apply") w=.ok (220,v) w:=by kernel_rfl
theorem Ie (v:Value)(w:World):(Instr.typeAssert (.iface 129 v) 70 109 true).run Tryz.prog w=.ok (.tuple #[.agg #[.int .i64 0,.string ⟨#[]⟩,.int .i64 0,.slice none 0 0],.bool false]) w:=by kernel_rfl
theorem Ge (v:Value)(w:World):(Instr.typeAssert (.iface 129 v) 70 112 true).run Tryz.prog w=.ok (.tuple #[.iface 129 v,.bool true]) w:=by kernel_rfl
theorem aaV (v:Value)(w:World):Sem.run Tryz.prog (method 519 129 v "quarry/quarry.apply") w=.ok (215,v) w:=by kernel_rfl
theorem Ig (v:Value)(w:World):(Instr.typeAssert (.iface 174 v) 70 109 true).run Tryz.prog w=.ok (.tuple #[.agg #[.int .i64 0,.string ⟨#[]⟩,.int .i64 0,.slice none 0 0],.bool false]) w:=by kernel_rfl
theorem Gf (v:Value)(w:World):(Instr.typeAssert (.iface 174 v) 70 112 true).run Tryz.prog w=.ok (.tuple #[.iface 174 v,.bool true]) w:=by kernel_rfl
theorem aaW (v:Value)(w:World):Sem.run Tryz.prog (method 519 174 v "quarry/quarry.apply") w=.ok (225,v) w:=by kernel_rfl
theorem Gg (v:Value)(w:World):(Instr.typeAssert (.iface 183 v) 70 109 true).run Tryz.prog w=.ok (.tuple #[.agg #[.int .i64 0,.string ⟨#[]⟩,.int .i64 0,.slice none 0 0],.bool false]) w:=by kernel_rfl
theorem DC (v:Value)(w:World):(Instr.typeAssert (.iface 183 v) 70 112 true).run Tryz.prog w=.ok (.tuple #[.iface 183 v,.bool true]) w:=by kernel_rfl
theorem XW (v:Value)(w:World):Sem.run Tryz.prog (method 519 183 v "quarry/quarry.apply") w=.ok (230,v) w:=by kernel_rfl
theorem DE (v:Value)(w:World):(Instr.typeAssert (.iface 132 v) 70 109 true).run Tryz.prog w=.ok (.tuple #[.agg #[.int .i64 0,.string ⟨#[]⟩,.int .i64 0,.slice none 0 0],.bool false]) w:=by kernel_rfl
theorem Cf (v:Value)(w:World):(Instr.typeAssert (.iface 132 v) 70 112 true).run Tryz.prog w=.ok (.tuple #[.iface 132 v,.bool true]) w:=by kernel_rfl
theorem T8 (v:Value)(w:World):Sem.run Tryz.prog (method 519 132 v "quarry/quarry.apply") w=.ok (218,v) w:=by kernel_rfl
theorem T9 {o:rO}{w:World}{p mt mg:Nat}{X:Nat->Prop}{tl:List (Lit×fF)}{gl:List (Lit×ng)}(h:cx o w p mt mg X tl gl){user:ByteArray}(hu:user.size<=maxLen){base:Nat}{v:Value}{c:xZ}(hc:mj w base v c)(hf:PE c)(hk:oL w)(hp:rW w) :
 Calls Tryz.prog 24 #[.pointer (some ⟨p,0,none⟩),.string user,v] w λr w'=>r=.returned (aaK (qs o.bud (cw tl gl) user c).1)/\Left o w w' p mt mg X tl (qs o.bud (cw tl gl) user c).2:=by
 cases hc with
 |xO t cols v hv=>
   obtain ⟨h1,h2,h3,h4⟩:=hf;refine (oP h (user:=user) (res:=oN (cw tl gl) t cols) (DB _) (Ce _) (T7 _) Tryz.call220 (λw1 X1 hb hs=>P9 hs h1 h2 h3 h4 (bF.below (bF.jt hv) hb (af _)))).mono ?_;rintro r w' ⟨rfl,hL⟩;rw [xc (λ_ e=>by cases e)];exact ⟨rfl,hL⟩
 |Jx t=>
   refine (oP h (user:=user) (res:=CM (cw tl gl) t) (Ie _) (Ge _) (aaV _) Tryz.call215 (λw1 X1 hb hs=>Xp hs hf)).mono ?_;rintro r w' ⟨rfl,hL⟩;rw [xc (λ_ e=>by cases e)];exact ⟨rfl,hL⟩
 |Jy t v vs rows hv hr=>
   obtain ⟨h1,h2,h3,h4⟩:=hf;refine (oP h (user:=user) (res:=yB (cw tl gl) t rows) (Ig _) (Gf _) (aaW _) Tryz.call225 (λw1 X1 hb hs=>XI hs h1 h2 h3 h4 (bF.below (bF.jt hv) hb (af _)) (hr.mono (λ_ _ _ hx=>⟨hx.1,bF.below (bF.jt hx.2) hb (af _)⟩)))).mono ?_;rintro r w' ⟨rfl,hL⟩;rw [xc (λ_ e=>by cases e)];exact ⟨rfl,hL⟩
 |B6 u t cols e pl v hv=>
   obtain ⟨h1,h2,h3,h4,h5,h6⟩:=hf;refine (oP h (user:=user) (res:=sO (cw tl gl) u t cols e pl) (Gg _) (DC _) (XW _) Tryz.call230 (λw1 X1 hb hs=>TY hs h1 h2 h3 h5 (bF.below (bF.jt hv) hb (af _)) h6)).mono ?_;rintro r w' ⟨rfl,hL⟩;rw [xc (λ_ e=>by cases e)];exact ⟨rfl,hL⟩
 |xP u t=>
   obtain ⟨h1,h2⟩:=hf;refine (oP h (user:=user) (res:=r8 (cw tl gl) u t) (DE _) (Cf _) (T8 _) Tryz.call218 (λw1 X1 hb hs=>P8 hs h1 h2)).mono ?_;rintro r w' ⟨rfl,hL⟩;rw [xc (λ_ e=>by cases e)];exact ⟨rfl,hL⟩
 |Ca pl t v ss hv=>
   obtain ⟨s,r,he,h1,h2,h3⟩:=hf
   cases he
   refine (Nu h hu (pl:=pl) (t:=t) h1 (bF.jt hv) hk hp).mono ?_;rintro r w' ⟨rfl,hb⟩;exact ⟨rfl,Left.same h hb⟩
structure qc (w:World):Prop where
 laid:Laid w
 kinds:oL w
 pow:rW w
 globs:vy w
 ops:dK w
theorem XY:Tryz.prog.globalNamed "internal/strconv.uint64pow10"=some 9:=by kernel_rfl
theorem qc.on {w w':World}(h:qc w)(hb:Below 12 w w'):qc w' where
 laid:=λi s hs=>(hb.cell (p:=⟨0,i,none⟩) (show 0<12 by decide)).trans (h.laid i s hs)
 kinds:=⟨aF h.kinds.1 hb.size,λk hk=>(hb.cell (p:=⟨1,k,none⟩) (show 1<12 by decide)).trans (h.kinds.2 k hk)⟩
 pow:=by
  have h1:=h.pow;unfold rW Lib.TabIs World.var? at *;rw [XY] at *;simp only [Option.bind_some] at h1 ⊢;rw [hb.block 9 (by decide)];exact h1
 globs:=h.globs.below hb (af _)
 ops:=λi n hn=>(hb.cell (p:=⟨8,i,none⟩) (show 8<12 by decide)).trans (h.ops i n hn)
theorem qc.size {w:World}(h:qc w):12<=w.heap.size:=h.globs.size
theorem uV.told {w':World}{base:Nat}{r:Ending}{S:ByteArray}(h:uV w' base r S):∃v e b,r=.returned (.tuple #[v,.agg #[.int .i64 (e:Nat),.int .i64 (b:Nat)]])/\pM v/\((∃c,gP S=.inl c/\e=0/\mj w' base v c)\/(∃q,gP S=.inr q/\e=q.1/\b=q.2/\e≠0)):=by
 obtain ⟨v,e,b,h1,h2,h3⟩:=h;refine ⟨v,e,b,h1,h2,?_⟩
 cases hr:gP S with
 |inl c=>rw [hr] at h3;exact .inl ⟨c,rfl,h3.1,h3.2⟩
 |inr q=>rw [hr] at h3;exact .inr ⟨q,rfl,h3.1,h3.2.1,h3.2.2⟩
def doV (a:Tq):Value:=.tuple #[.string ⟨a.1.toArray⟩,.int .i64 (a.2.1:Nat),.int .i64 (a.2.2:Nat)]
theorem ae7 {o:rO}{w:World}{p mt mg:Nat}{X:Nat->Prop}{tl:List (Lit×fF)}{gl:List (Lit×ng)}(h:cx o w p mt mg X tl gl)(hg:qc w){user text:ByteArray}(hu:user.size<=maxLen) :
 Calls Tryz.prog 15 #[.pointer (some ⟨p,0,none⟩),.string user,.string text] w λr w'=>r=.returned (doV (qA o.bud (cw tl gl) user text).1)/\(∀q,gP text=.inr q->q.1≠0)/\Left o w w' p mt mg X tl (qA o.bud (cw tl gl) user text).2:=by
 by_cases hl:300<text.size
 . have zS:((text.size:Nat):Int)>300:=by omega
   have HR:Hid (qA o.bud (cw tl gl) user text=(([],1,0),cw tl gl)):=hide (by unfold qA;rw [aH hl]);have HQ:Hid (∀q,gP text=.inr q->q.1≠0):=hide (λq hq=>by unfold gP at hq;rw [aH hl] at hq;cases hq;decide);have HH:=hide h;clear h hg hl;go_enter Tryz.func15,Tryz.ntmps15;go_wp2_with fail;refine ay (v:=.tuple #[.string ⟨#[]⟩,.int .i64 1,.int .i64 0]) (by simp [results,Tryz.results15,go_sem];try rfl) rfl ?_;rw [ae HR];exact ⟨rfl,ae HQ,Left.same (ae HH) (ag _ _)⟩
 . have zS:¬((text.size:Nat):Int)>300:=by omega
   have HP:=hide (T6 text w (by omega) hg.globs hg.ops);have HH:=hide h;have HG:=hide hg;have HL:=hide hl;clear h hg hl;go_enter Tryz.func15,Tryz.ntmps15;go_wp2_with fail;refine (ae HP).mono ?_;rintro r w1 ⟨hp,bL⟩;obtain ⟨v,e,b,rfl,hv,kH⟩:=hp.told;have bO:Below w1.heap.size w1 (w1.alloc (.cells #[.int .i64 (e:Nat),.int .i64 (b:Nat)] 72)):=(ag _ _).alloc (af _) _;have nN:=ai w1 (.cells #[.int .i64 (e:Nat),.int .i64 (b:Nat)] 72);obtain ⟨W1,qH⟩:∃W1,W1=w1.alloc (.cells #[.int .i64 (e:Nat),.int .i64 (b:Nat)] 72):=⟨_,rfl⟩;rw [<- qH] at bO nN;have HF:=hide (oM e b W1);have eI:=hide bL;have jg:=hide bO;have vH:=hide nN;have xX:=hide qH;have HVS:=hide hv;have hkc:=bj nN;obtain ⟨k0,k1⟩:=hkc;have ZO:=az nN;rcases kH with ⟨c,UF,OJ,N2⟩|⟨q,UF,hq1,Cw,Hj⟩
   . have Gs:=hide UF
     have Y2:=hide N2;have HE0:=hide OJ;clear hp bL bO nN qH UF N2 OJ;have hvv:∃t u,v=.iface t u:=by
      have N2:=ae Y2
      cases N2<;>exact ⟨_,_,rfl⟩
     obtain ⟨tv,uv,rfl⟩:=hvv;clear hv;go_wp2_with fail;rw [<- ae xX];refine (ae HF).mono ?_;rintro r w2 ⟨rfl,eD⟩;have hd:decide (e≠0)=false:=by simp [ae HE0]
     rw [hd];have qR:Below w.heap.size w w2:=((ae eI).trans ((ae jg).mono (ae eI).size)).trans (eD.mono (aw (ae eI).size (ae jg).size));have HMA:=hide (XB ((ae HH).below qR));have px:=hide qR;have nQ:=(eD.block _ ZO).trans (ae vH);have um:=hide nQ;have aoM:=az nQ;have aoN:=hide ((ae Y2).keep (w2:=w2) (λg _ h2=>(eD.block g (aF h2 (ae jg).size)).trans ((ae jg).block g h2)));clear eD qR nQ hd;go_wp2_with fail;refine (ae HMA).mono ?_;rintro r w3 ⟨rfl,me⟩;have KW:=(ae px).trans (me.mono (ae px).size);have tq:=(me.block _ aoM).trans (ae um);have ae8:=az tq;have Le:w.heap.size<=w1.heap.size:=(ae eI).size;have HSW:=hide ((ae HH).wide KW Le ae8);have N8:=(ae HG).on (KW.mono (ae HG).size);have HCA:=hide (T9 (ae HSW) hu ((ae aoN).keep (w2:=w3) (λg _ h2=>me.block g h2)) (MR (ae Gs)) N8.kinds N8.pow);have DP:=hide KW;have Bi:=hide tq;clear me KW tq N8;go_wp2_with fail;refine (ae HCA).mono ?_;rintro r w4 ⟨rfl,hL⟩;have Jt:w4.heap[w1.heap.size]?=some (.cells #[.int .i64 (e:Nat),.int .i64 (b:Nat)] 72 (0,0)):=by
      obtain ⟨MS,ye,-,-,hk,-⟩:=hL;refine (hk.block _ ⟨ae8,λhm=>?_⟩).trans (ae Bi);have:=(ae HH).nO _ ((ae HH).sub _ hm);omega
     obtain ⟨x,hx⟩:∃x,x=qs o.bud (cw tl gl) user c:=⟨_,rfl⟩;rw [<- hx] at hL ⊢;have jz:=λW9 hk9=>Left.ends (W9:=W9) (ae HH) (ae DP) Le ae8 hL hk9;have HE:=hide jz;have UU:Hid (aQ (λb=>b<w4.heap.size/\b≠w1.heap.size) w4 ((w4.setCell ⟨w1.heap.size,0,none⟩ (.int .i64 (x.1.2.1:Nat))).setCell ⟨w1.heap.size,1,none⟩ (.int .i64 (x.1.2.2:Nat)))):=hide (((aQ.refl _ _).setCell (λhk=>hk.2 rfl) _).setCell (λhk=>hk.2 rfl) _);obtain ⟨W5,DX⟩:∃W5,W5=(w4.setCell ⟨w1.heap.size,0,none⟩ (.int .i64 (x.1.2.1:Nat))).setCell ⟨w1.heap.size,1,none⟩ (.int .i64 (x.1.2.2:Nat)):=⟨_,rfl⟩;have Ob:W5.heap[w1.heap.size]?=some (.cells #[.int .i64 (x.1.2.1:Nat),.int .i64 (x.1.2.2:Nat)] 72 (0,0)):=by rw [DX];exact aO _ _ 1 _ _ _ (aO _ _ 0 _ _ _ Jt)
     rw [<- DX] at UU;have YR:=hide DX;obtain ⟨j0,j1⟩:=bj Ob;have HX:=hide ((uU (bud:=o.bud) (st:=cw tl gl) (user:=user) (ae HL) (ae Gs)).trans hx.symm);obtain ⟨g0,g1⟩:=bj Jt;have y0:=lz Jt 0;have y1:=lz Jt 1;have hl4:=az Jt;have Cq:=hide Jt;have HQ:Hid (∀q,gP text=.inr q->q.1≠0):=hide (λq hq=>by rw [ae Gs] at hq;cases hq);unfold aaK;clear hL Jt hx k0 k1 jz DX Ob;go_wp2_with fail;rw [<- ae YR];clear g0 g1 y0 y1;go_quiet (fail);go_wp2_with fail;refine ay (v:=.tuple #[.string ⟨x.1.1.toArray⟩,.int .i64 (x.1.2.1:Nat),.int .i64 (x.1.2.2:Nat)]) (by simp [results,Tryz.results15,go_sem];try rfl) rfl ?_;rw [ae HX];exact ⟨rfl,ae HQ,ae HE _ ⟨(ae UU).os,(ae UU).tape,(ae UU).output,(ae UU).size,(ae UU).block⟩⟩
   . have Gs:=hide UF
     have hd:decide (e≠0)=true:=by simpa using Hj
     have HD:=hide hd;have HQ:Hid (∀q,gP text=.inr q->q.1≠0):=hide (λq' Co=>by rw [UF] at Co;cases Co;rw [<- hq1];exact Hj);have HX:Hid (qA o.bud (cw tl gl) user text=(([],e,b),cw tl gl)):=hide (by rw [hq1,Cw];exact AX (ae HL) UF);clear hp bL bO nN qH UF hq1 Cw Hj hd;rcases hv with rfl|⟨tv,uv,rfl⟩
     all_goals
      go_wp2_with fail;rw [<- ae xX];refine (ae HF).mono ?_;rintro r w2 ⟨rfl,eD⟩;rw [ae HD];have qR:Below w.heap.size w w2:=((ae eI).trans ((ae jg).mono (ae eI).size)).trans (eD.mono (aw (ae eI).size (ae jg).size));have nQ:=(eD.block _ ZO).trans (ae vH);obtain ⟨g0,g1⟩:=bj nQ;have px:=hide qR;clear eD qR nQ;go_wp2_with fail;go_quiet (fail);go_wp2_with fail;refine ay (v:=.tuple #[.string ⟨#[]⟩,.int .i64 (e:Nat),.int .i64 (b:Nat)]) (by simp [results,Tryz.results15,go_sem];try rfl) rfl ?_;rw [ae HX];exact ⟨rfl,ae HQ,Left.same (ae HH) (below_drewN (ae px) _)⟩
def One (o:rO)(w:World)(p:Nat)(X M:Nat->Prop)(st:ou):Prop:=∃mt mg tl gl,cx o w p mt mg X tl gl/\cw tl gl=st/\M=vP mt mg tl
structure sP (o:rO)(w w':World)(p:Nat)(X M X' M':Nat->Prop)(st:ou):Prop where
 one:One o w' p X' M' st
 more:∀b,X b->X' b
 grows:∀b,X' b->X b\/w.heap.size<=b
 DF:∀b,M' b->M b\/w.heap.size<=b
 keep:aQ (λb=>b<w.heap.size/\¬M b) w w'
section
variable {o o2:rO} {w w':World} {p p2:Nat} {X X' M M' M2:Nat->Prop} {st st2:ou}
theorem One.sub (h:One o w p X M st):∀b,M b->X b:=by
 obtain ⟨mt,mg,tl,gl,h,-,rfl⟩:=h;exact h.sub
theorem One.nO (h:One o w p X M st):∀b,X b->b<w.heap.size:=by
 obtain ⟨mt,mg,tl,gl,h,-,-⟩:=h;exact h.nO
theorem One.stays (h:One o w p X M st)(hs:w.heap.size<=w'.heap.size)(hk:∀b,b<w.heap.size->¬X b->w'.heap[b]?=w.heap[b]?)(hm:∀b,M b->w'.heap[b]?=w.heap[b]?)(hX:∀b,X b->X' b)(hg:∀b,X' b->X b\/w.heap.size<=b)(mC:∀b,X' b->b<w'.heap.size):One o w' p X' M st:=by
 obtain ⟨mt,mg,tl,gl,h,h1,rfl⟩:=h;exact ⟨mt,mg,tl,gl,h.stays ⟨hs,hk,hg⟩ hm hX mC,h1,rfl⟩
theorem One.wide (h:One o w p X M st)(hb:Below w.heap.size w w'):One o w' p (λb=>X b\/(w.heap.size<=b/\b<w'.heap.size)) M st:=
 h.stays hb.size (λb h1 _=>hb.block b h1) (λb hm=>hb.block b (h.nO b (h.sub b hm))) (λb hx=>.inl hx) (λb hx=>hx.imp id (λe=>e.1)) (λb hx=>by
  rcases hx with hx|hx
  . exact aF (h.nO b hx) hb.size
  . exact hx.2)
theorem One.put (h:One o w p X M st){k:Nat}(hk:X k)(hm:¬M k)(hs:w'.heap.size=w.heap.size)(hn:∀b,b≠k->w'.heap[b]?=w.heap[b]?):One o w' p X M st:=
 h.stays (by omega) (λb _ hx=>hn b (λe=>hx (e ▸ hk))) (λb hb=>hn b (λe=>hm (e ▸ hb))) (λ_ hx=>hx) (λ_ hx=>.inl hx) (λb hx=>by rw [hs];exact h.nO b hx)
theorem One.set (h:One o w p X M st){k i:Nat}{u:Value}(hk:X k)(hm:¬M k):One o (w.setCell ⟨k,i,none⟩ u) p X M st:=
 h.put hk hm (by simp [World.setCell]) (λb hb=>aD _ _ _ _ hb)
theorem One.beside (h:One o2 w p2 X M2 st2)(hg:sP o w w' p X M X' M' st)(hm:∀b,M b->X b)(hd:∀b,M b->¬M2 b):One o2 w' p2 X' M2 st2:=
 h.stays hg.keep.size (λb h1 h2=>hg.keep.block b ⟨h1,λe=>h2 (hm b e)⟩) (λb hb=>hg.keep.block b ⟨h.nO b (h.sub b hb),λe=>hd b e hb⟩) hg.more hg.grows hg.one.nO
theorem sP.apart (hg:sP o w w' p X M X' M' st)(h:One o2 w p2 X M2 st2)(hd:∀b,M b->¬M2 b):∀b,M' b->¬M2 b:=λb hb h2=>by
 rcases hg.DF b hb with e|e
 . exact hd b e h2
 . have:=h.nO b (h.sub b h2);omega
theorem sP.of {w1 w2:World}{X2:Nat->Prop}(hb:Below w.heap.size w w1)(hg:sP o w1 w2 p (λb=>X b\/(w.heap.size<=b/\b<w1.heap.size)) M X2 M' st)(h9:aQ (λb=>b<w.heap.size) w2 w')(ho:One o w' p X' M' st)(h1:∀b,X2 b->X' b)(h2:∀b,X' b->X2 b\/w.heap.size<=b):sP o w w' p X M X' M' st where
 one:=ho
 more:=λb hx=>h1 b (hg.more b (.inl hx))
 grows:=λb hx=>by
  have:=hb.size;rcases h2 b hx with e|e
  . rcases hg.grows b e with (e|e)|e
    . exact .inl e
    . exact .inr e.1
    . exact .inr (by omega)
  . exact .inr e
 DF:=λb hx=>by
  have:=hb.size;rcases hg.DF b hx with e|e
  . exact .inl e
  . exact .inr (by omega)
 keep:=by
  have hs:=hb.size;refine ⟨h9.os.trans (hg.keep.os.trans hb.os),h9.tape.trans (hg.keep.tape.trans hb.tape),h9.output.trans (hg.keep.output.trans hb.output),aw hs (aw hg.keep.size h9.size),λb Cm=>?_⟩;exact (h9.block b Cm.1).trans ((hg.keep.block b ⟨by have:=Cm.1;omega,Cm.2⟩).trans (hb.block b Cm.1))
theorem sP.trans {X2 M2:Nat->Prop}{w2:World}{st3:ou}(h:sP o w w' p X M X' M' st)(k:sP o w' w2 p X' M' X2 M2 st3):sP o w w2 p X M X2 M2 st3 where
 one:=k.one
 more:=λb hx=>k.more b (h.more b hx)
 grows:=λb hx=>by
  rcases k.grows b hx with e|e
  . exact h.grows b e
  . exact .inr (aw h.keep.size e)
 DF:=λb hx=>by
  rcases k.DF b hx with e|e
  . exact h.DF b e
  . exact .inr (aw h.keep.size e)
 keep:=by
  refine ⟨k.keep.os.trans h.keep.os,k.keep.tape.trans h.keep.tape,k.keep.output.trans h.keep.output,aw h.keep.size k.keep.size,λb hb=>?_⟩;refine (k.keep.block b ⟨aF hb.1 h.keep.size,λe=>?_⟩).trans (h.keep.block b hb);rcases h.DF b e with e|e
  . exact hb.2 e
  . have:=hb.1;omega
theorem sP.below (h:sP o w w' p X M X' M' st){lo:Nat}(hM:∀b,M b->lo<=b)(hl:lo<=w.heap.size):Below lo w w':=
 ⟨h.keep.os,h.keep.tape,h.keep.output,h.keep.size,λb hb=>h.keep.block b ⟨by omega,λe=>by have:=hM b e;omega⟩⟩
theorem sP.XZ (h:sP o w w' p X M X' M' st){lo:Nat}(hM:∀b,M b->lo<=b)(hl:lo<=w.heap.size):∀b,M' b->lo<=b:=λb hb=>by
 rcases h.DF b hb with e|e
 . exact hM b e
 . omega
end
theorem X8 {o:rO}{w:World}{p:Nat}{X M:Nat->Prop}{st:ou}(h:One o w p X M st)(hg:qc w){user text:ByteArray}(hu:user.size<=maxLen) :
 Calls Tryz.prog 15 #[.pointer (some ⟨p,0,none⟩),.string user,.string text] w λr w'=>r=.returned (doV (qA o.bud st user text).1)/\(∀q,gP text=.inr q->q.1≠0)/\∃X' M',sP o w w' p X M X' M' (qA o.bud st user text).2:=by
 obtain ⟨mt,mg,tl,gl,h,rfl,rfl⟩:=h;refine (ae7 h hg hu).mono ?_;rintro r w' ⟨rfl,hq,MS,ye,h1,h2,h3,h4⟩;refine ⟨rfl,hq,_,_,⟨mt,mg,MS,ye,h2,h1,rfl⟩,λb hx=>.inl hx,λb hx=>?_,h4,h3⟩;rcases hx with e|e
 . exact .inl e
 . exact (h4 b e).imp (h.sub b) id
theorem D8 (seg pk wd bud:Int)(prune push:Bool)(w:World){X0:Nat->Prop}(hX:∀b,X0 b->b<w.heap.size):Calls Tryz.prog 13 #[.agg #[.int .i64 seg,.int .i64 pk,.int .i64 wd,.bool prune,.bool push,.int .i64 bud]] w λe w'=>∃p X M,e=.returned (.pointer (some ⟨p,0,none⟩))/\One (rF seg pk wd bud prune push) w' p X M ⟨[],[]⟩/\(∀b,X0 b->X b)/\(∀b,X b->X0 b\/w.heap.size<=b)/\(∀b,M b->w.heap.size<=b)/\Below w.heap.size w w':=by
 refine (aaO seg pk wd bud prune push w).mono ?_;rintro e w' ⟨p,mt,mg,rfl,h,h1,h2,h3,hb⟩;have hM:∀b,vP mt mg [] b->w.heap.size<=b:=λb hb=>by
  rcases hb with e|e|⟨x,hx,-⟩
  . omega
  . omega
  . simp at hx
 refine ⟨p,λb=>X0 b\/vP mt mg [] b,vP mt mg [],rfl,⟨mt,mg,[],[],?_,rfl,rfl⟩,λb hx=>.inl hx,λb hx=>hx.imp id (hM b),hM,hb⟩;exact
  { dV:=h.dV
    yz:=h.yz
    yA:=h.yA
    ne:=h.ne
    tab:=λx hx=>by simp at hx
    apart:=List.Pairwise.nil
    gr:=λx hx=>by simp at hx
    names:=λx hx=>by simp at hx
    sub:=λb hb=>.inr hb
    nO:=λb hx=>by
     rcases hx with e|e
     . exact aF (hX b e) hb.size
     . exact h.nO b e
    pX:=λhx=>by
     rcases hx with e|e
     . have:=hX p e;omega
     . exact h.pX e
    few:=h.few }
end
end Go.Proofs.YteniahoehoncjaaGreatDoor
