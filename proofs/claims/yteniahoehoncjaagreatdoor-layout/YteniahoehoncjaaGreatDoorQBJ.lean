import Derived.Test.YteniahoehoncjaaGreatDoorQBH
import Derived.Test.YteniahoehoncjaaGreatDoorQBG
import Derived.Deep.DeepCutAuto
set_option maxHeartbeats 99999999
set_option maxRecDepth 100000
namespace Go.Proofs.YteniahoehoncjaaGreatDoor
open Go.RowKit
section
open Go.Maps
theorem CX {cols:List cU}:∀{cs:List Nm} {l:List Nat} {f:Nat×Nat},eJ cols cs l=.inl f->f.1≠0
 |[],l,f,h=>by unfold eJ at h;cases h
 |n::r,l,f,h=>by
   unfold eJ at h;split at h
   . cases h;simp
   . split at h
     . cases h;simp
     . exact CX h
theorem XC {cols:List cU}{e:Ex}{pl:Nat}(h:(si cols e pl).1≠0){β:Type}(st:β)(R:(Nat×Nat)×β):(match cV cols e with|.inr f=>(f,st)|.inl k=>if k≠2 then ((7,pl),st) else R)=(si cols e pl,st):=by
 unfold si at h ⊢
 cases hk:cV cols e with
 |inr f=>rfl
 |inl k=>
   rw [hk] at h;by_cases h2:k=2
   . simp [h2] at h
   . simp [h2]
theorem TW {cols:List cU}{e:Ex}{pl:Nat}(h:(si cols e pl).1=0):cV cols e=.inl 2:=by
 unfold si at h
 cases hk:cV cols e with
 |inr f=>rw [hk] at h;exact absurd h (MF cols e hk).1
 |inl k=>
   rw [hk] at h;by_cases h2:k=2
   . rw [h2]
   . simp [h2] at h
theorem TX {B:Type}{T:List (Lit×B)}{k:Lit}{b:B}(h:(k,b)∈T)(hk:WideAt.IsKeyLit k):(oB T k).length<T.length:=by
 unfold oB;rw [List.length_filter_lt_length_iff_exists];exact ⟨_,h,by simp [WideAt.sameKey_self hk]⟩
theorem se.gen {w w':World}{res:(Nat×Nat) ⊕ List Nat}{r:Ending}(h:se w w' res r):∃ka n iG,∃F:Nat×Nat,r=.returned (.tuple #[.slice ka n iG,.agg #[.int .i64 F.1,.int .i64 F.2]])/\(res=.inl F\/∃sh,res=.inr sh/\F=(0,0)/\w'.ownsRow w.heap.size 3 1 (.slice ka n iG) sh.length (sh.map kZ))/\Below w.heap.size w w':=by
 obtain ⟨hb,hm⟩:=h
 cases res with
 |inl f=>exact ⟨none,0,0,f,hm,.inl rfl,hb⟩
 |inr sh=>
   obtain ⟨sv,rfl,ho⟩:=hm;obtain ⟨ka,iG,rfl,-,-⟩:=di ho;exact ⟨ka,sh.length,iG,(0,0),rfl,.inr ⟨sh,rfl,rfl,ho⟩,hb⟩
theorem TY {o:rO}{w:World}{p mt mg:Nat}{X:Nat->Prop}{tl:List (Lit×fF)}{gl:List (Lit×ng)}(h:cx o w p mt mg X tl gl){u t:Nm}(hu:mN u)(ht:mN t){cs:List Nm}(hcs:cs≠[])(vQ:cs.length<=302){v:Value}(hv:bF w 2 v cs.length (jF cs)){e:Ex}(Bl:vO e){pl:Nat} :
 Calls Tryz.prog 230 #[.agg #[.string u.1,.int .i64 u.2,.string t.1,.int .i64 t.2,v,.int .i64 pl,qL e],.pointer (some ⟨p,0,none⟩)] w λr w'=>jR o w w' p mt mg X tl (sO (cw tl gl) u t cs e pl) r:=by
 have Rz:(8:Nat)<=maxLen:=by unfold maxLen;omega
 have hu8:=aw hu.1 Rz;have DY:=aw ht.1 Rz;obtain ⟨te,jW,-,-⟩:=uP e;obtain ⟨va,cJ,rfl⟩:=bF.slice hv;rw [jW];obtain ⟨W,hW⟩:∃W,W=(w.alloc (.cells #[.string u.1,.int .i64 u.2,.string t.1,.int .i64 t.2,.slice va cs.length cJ,.int .i64 pl,.iface te (uh e)] 183)).alloc (.cells #[.int .i64 0,.int .i64 0] 72):=⟨_,rfl⟩;have lK:Below w.heap.size w W:=by rw [hW];exact ((ag _ _).alloc (af _) _).alloc (by simp) _
 have za:W.heap.size=w.heap.size+2:=by rw [hW];simp
 have fN:W.heap[w.heap.size]?=some (.cells #[.string u.1,.int .i64 u.2,.string t.1,.int .i64 t.2,.slice va cs.length cJ,.int .i64 pl,.iface te (uh e)] 183 (0,0))/\W.heap[w.heap.size+1]?=some (.cells #[.int .i64 0,.int .i64 0] 72 (0,0)):=by
  rw [hW];have e2:=ai (w.alloc (.cells #[.string u.1,.int .i64 u.2,.string t.1,.int .i64 t.2,.slice va cs.length cJ,.int .i64 pl,.iface te (uh e)] 183)) (.cells #[.int .i64 0,.int .i64 0] 72);rw [show (w.alloc (.cells #[.string u.1,.int .i64 u.2,.string t.1,.int .i64 t.2,.slice va cs.length cJ,.int .i64 pl,.iface te (uh e)] 183)).heap.size=w.heap.size+1 by simp] at e2;exact ⟨(dX _ _ (by simp)).trans (ai w _),e2⟩
 have HB:=hide (λwr (hb:Below W.heap.size W wr)=>(show cx o wr p mt mg X tl gl/\Below w.heap.size w wr/\wr.heap[w.heap.size]?=some (.cells #[.string u.1,.int .i64 u.2,.string t.1,.int .i64 t.2,.slice va cs.length cJ,.int .i64 pl,.iface te (uh e)] 183 (0,0))/\wr.heap[w.heap.size+1]?=some (.cells #[.int .i64 0,.int .i64 0] 72 (0,0))/\bF wr 2 (.slice va cs.length cJ) cs.length (jF cs) from by
  have h1:=lK.trans (hb.mono (by omega));exact ⟨h.below h1,h1,(hb.block _ (by omega)).trans fN.1,(hb.block _ (by omega)).trans fN.2,bF.below hv h1 (af _)⟩))
 have HW:=hide hW;obtain ⟨hS,-,bL,bO,-⟩:=ae HB W (ag _ _);obtain ⟨c0,c1,c2,c3,c4,c5,c6⟩:=ow bL;obtain ⟨f0,f1⟩:=bj bO;have z0:=lz bO 0;have z1:=lz bO 1;obtain ⟨e0,e1,e2,e3,e4,e5,e6,e7⟩:=dG hS.dV;have hpW:=az hS.dV;have Db:=az bL;have Kc:=az bO;have xG:=hS.find DY;have o7:=(hS.below (aJ (ag _ _))).find DY;have HH:=hide h;have jg:=hide bO;have oD:=hide lK
 cases hg:eA tl (tk t.1) with
 |none=>
   simp only [hg] at xG o7;have zA:Hid (sO (cw tl gl) u t cs e pl=((5,t.2),cw tl gl)):=hide (by unfold sO cw;simp only;rw [fY,hg];rfl);clear h hW lK fN hS bL bO hg za hv;go_enter Tryz.func230,Tryz.ntmps230;go_wp2_with fail;rw [<- ae HW];go_region
   all_goals
    (try go_wp2_with fail)
    obtain ⟨⟨d0,d1⟩,d2⟩:=eX (w1:=W) (ae oD) (cq _) (ae jg) (.int .i64 5) (.int .i64 t.2);refine ay (qb Tryz.results230 rfl d0 d1) rfl ?_;rw [ae zA];exact (ae HH).same (aJ d2) (5,t.2) rfl
 |some tc=>
   simp only [hg] at xG o7;unfold fF.val at xG o7;have TA:(tk t.1,tc)∈tl:=by
    have h1:=kA hg;exact h1
   have Pq:=hS.tab _ TA;obtain ⟨ca,kV,N2⟩:=Pq.Hb.slice;have aeP:=hide N2;have HT:=hide (λwr (hb:Below W.heap.size W wr)=>(show wr.heap[tc.q]?=some (.cells #[.slice ca tc.cols.length kV,tc.sv,.int .i64 tc.Cs.flatten.length] 194 (0,0))/\gq wr (.slice ca tc.cols.length kV) tc.cols from by
    have h1:=(ae HB wr hb).1.tab _ TA;rw [<- ae aeP];exact ⟨h1.dV,h1.Hb⟩))
   have h5:tc.cols.length<=5:=Pq.BU.1;have HTM:=hide TA;obtain ⟨W2,La⟩:∃W2,W2=W.drew:=⟨_,rfl⟩;have KA:Hid (Below W.heap.size W W2):=hide (by rw [La];exact aJ (ag _ _));have HSO:=hide (λwr (hb:Below W2.heap.size W2 wr)=>(show Calls Tryz.prog 231 #[.agg #[.string u.1,.int .i64 u.2,.string t.1,.int .i64 t.2,.slice va cs.length cJ,.int .i64 pl,.iface te (uh e)],.slice ca tc.cols.length kV] wr (λr w'=>se wr w' (eJ tc.cols cs []) r) from by
    have Cm:=(ae KA).trans (hb.mono (ae KA).size);exact Nk rfl hcs vQ (ae HB wr Cm).2.2.2.2 (ae HT wr Cm).2 h5))
   have U4:(W2.alloc (.cells #[.int .i64 0,.int .i64 0] 72)).drew.heap.size=W2.heap.size+1:=by show (W2.heap.push _).size=_;rw [dq]
   have qK:=hide (λw2 (hb:Below (W2.alloc (.cells #[.int .i64 0,.int .i64 0] 72)).drew.heap.size (W2.alloc (.cells #[.int .i64 0,.int .i64 0] 72)).drew w2)=>(show w2.heap[W2.heap.size]?=some (.cells #[.int .i64 0,.int .i64 0] 72 (0,0))/\Below W2.heap.size W2 w2 from
    ⟨(hb.block W2.heap.size (by omega)).trans (ai W2 (.cells #[.int .i64 0,.int .i64 0] 72)),(aJ ((ag W2.heap.size W2).alloc (af _) _)).trans (hb.mono (by omega))⟩))
   have HZ9:=hide U4;have Oa:Hid (sO (cw tl gl) u t cs e pl=match eJ tc.cols cs [] with|.inl f=>(f,cw tl gl)|.inr sh=>match cV tc.cols e with|.inr f=>(f,cw tl gl)|.inl k=>if k≠2 then ((7,pl),cw tl gl) else if (eA (eZ ng.told gl) (gk u.1 t.1)).isNone/\8<=(eZ ng.told gl).length then ((8,0),cw tl gl) else ((0,0),⟨eZ fF.told tl,oK (eZ ng.told gl) (gk u.1 t.1) (sh,e)⟩)):=hide (by
    unfold sO cw;simp only;rw [fY,hg];rfl)
   obtain ⟨Gt,Bo⟩:=ae HT W (ag _ _);obtain ⟨q0,q1,q2⟩:=aR Gt;have BA:=az Gt;have vG:=hide La;obtain ⟨AA,-,aiP,-,-⟩:=ae HB W2 (ae KA);obtain ⟨aiQ,-⟩:=ae HT W2 (ae KA);have C2:=hide (ow aiP);have Q2:=hide (aR aiQ);have LN:=(ae KA).size;clear h hW lK fN hS bL bO hg za hv Pq N2 Gt Bo TA U4 La AA aiP aiQ;go_enter Tryz.func230,Tryz.ntmps230;go_wp2_with fail;rw [<- ae HW]
   go_cut [5] from 12 to 25 (λs5 wx=>s5=.pointer (some ⟨tc.q,0,none⟩)/\W2=wx)
   case first=>
    go_region
    all_goals (try go_wp2_with fail)
    all_goals go_meet
    all_goals exact ⟨rfl,ae vG⟩
   case rest=>
    obtain ⟨rfl,rfl⟩:=hcut;clear xG o7 c0 c1 c2 c3 c4 c5 c6 f0 f1 z0 z1 e0 e1 e2 e3 e4 e5 e6 e7 q0 q1 q2 vG;obtain ⟨c0,c1,c2,c3,c4,c5,c6⟩:=ae C2;obtain ⟨q0,q1,q2⟩:=ae Q2;have auz:w.heap.size<W2.heap.size:=by omega
    have auA:tc.q<W2.heap.size:=by omega
    go_wp2_with fail
    go_cut [6,7] from 26 to 34 (λs6 s7 wx=>∃ka n iG,∃F:Nat×Nat,∃b9,s6=.slice ka n iG/\s7=.pointer (some ⟨b9,0,none⟩)/\Hid (wx.heap[b9]?=some (.cells #[.int .i64 F.1,.int .i64 F.2] 72 (0,0))/\(eJ tc.cols cs []=.inl F\/∃sh,eJ tc.cols cs []=.inr sh/\F=(0,0)/\wx.ownsRow W2.heap.size 3 1 (.slice ka n iG) sh.length (sh.map kZ))/\Below W2.heap.size W2 wx))
    case first=>
     go_region_law (refine iV rfl 231 _ _ rfl Tryz.call231 #[.agg #[.string u.1,.int .i64 u.2,.string t.1,.int .i64 t.2,.slice va cs.length cJ,.int .i64 pl,.iface te (uh e)],.slice ca tc.cols.length kV] (by first|(simp [Act.eval];done)|(simp [Act.eval,Act.put];done)|rfl) _ (ae HSO _ (by first|exact aJ (ag _ _)|exact aJ ((ag _ _).alloc (af _) _))) ?_;rintro e' w2 Dd;obtain ⟨ka,n,iG,F,rfl,hT,bO⟩:=Dd.gen;refine ⟨_,rfl,?_⟩;clear Dd;(first|(have KT:=(ae qK w2 bO).1;obtain ⟨a0,a1⟩:=bj KT;have ga:=λi=>lz KT i;have HX9:=hide KT;clear KT)|skip);have Gb:Hid (Below W2.heap.size W2 w2):=hide (by first|exact (aJ (ag _ _)).trans bO|exact (ae qK w2 bO).2);have HTT:=hide hT;clear hT bO)
     all_goals (try go_wp2_with fail)
     all_goals go_meet
     all_goals
      first
      |exact ⟨ka,n,iG,F,_,rfl,rfl,hide ⟨ai _ _,(ae HTT).imp id (λ⟨sh,h1,h2,h3⟩=>⟨sh,h1,h2,du h3 ((ag _ _).alloc (af _) _)⟩),(ae Gb).alloc (ae Gb).size _⟩⟩
      |exact ⟨ka,n,iG,F,_,rfl,rfl,hide ⟨aO _ _ 1 _ _ _ (aO _ _ 0 _ _ _ (ae HX9)),(ae HTT).imp id (λ⟨sh,h1,h2,h3⟩=>⟨sh,h1,h2,by
         have iq:∀k,(Value.slice ka n iG).ownBlock=some k->k≠W2.heap.size:=λk hk=>by
          have:=(h3.lt k hk).1;rw [ae HZ9] at this;omega
         exact Nj (wI h3 (λk hk=>(aD _ _ _ _ (iq k hk)).trans (aD _ _ _ _ (iq k hk)))) (by rw [ae HZ9];omega)⟩),((ae Gb).setCell (af _) _).setCell (af _) _⟩⟩
    case rest=>
     obtain ⟨ka,n,iG,F,b9,rfl,rfl,H9⟩:=hcut;clear c0 c1 c2 c3 c4 c5 c6 q0 q1 q2 HSO qK HZ9;obtain ⟨Ia,hT,N9⟩:=ae H9;obtain ⟨o0,o1⟩:=bj Ia;have Qa:=hide (oM F.1 F.2 wc);have aeS:=az Ia;clear Ia N9 hT;go_wp2_with fail;refine (ae Qa).mono ?_;rintro r w3 ⟨rfl,eD⟩;obtain ⟨Ia,hT,N9⟩:=ae H9;have tq:=(eD.block _ aeS).trans Ia;obtain ⟨g0,g1⟩:=bj tq;have vN:=(ae KA).trans ((N9.trans (eD.mono N9.size)).mono (ae KA).size);obtain ⟨xI,wZ,Pk,Ic,-⟩:=ae HB w3 vN;obtain ⟨Hc,XD⟩:=ae HT w3 vN;obtain ⟨f0,f1⟩:=bj Ic;have z0:=lz Ic 0;have z1:=lz Ic 1;have XE:=az Ic;have HF3:=hide Ic;have I8:=hide wZ;have px:=hide vN;by_cases hF0:F.1=0
     . obtain ⟨sh,DI,hFF,br⟩:∃sh,eJ tc.cols cs []=.inr sh/\F=(0,0)/\wc.ownsRow W2.heap.size 3 1 (.slice ka n iG) sh.length (sh.map kZ):=by
        rcases hT with h1|h1
        . exact absurd hF0 (CX h1)
        . exact h1
       have hd:decide (F.1≠0)=false:=by simp [hF0]
       rw [hd];have aiT:=hide (du br eD);have aof:=hide (aw N9.size eD.size);have G9:=hide (Jv DI List.nodup_nil (by simp));rw [DI] at Oa;have YX:=hide (λwr (hb:Below w3.heap.size w3 wr)=>Ib (w:=wr) (e:=e) (pl:=pl) Bl (bF.below XD hb (af _)) h5);rw [jW] at YX;obtain ⟨G,hG⟩:∃G,G=si tc.cols e pl:=⟨_,rfl⟩;rw [<- hG] at YX;have HG:=hide hG;obtain ⟨c0,c1,c2,c3,c4,c5,c6⟩:=ow Pk;obtain ⟨q0,q1,q2⟩:=aR Hc;have hl3:=az Pk;have V7:=az Hc;have U4:(w3.alloc (.cells #[.int .i64 0,.int .i64 0] 72)).drew.heap.size=w3.heap.size+1:=by show (w3.heap.push _).size=_;rw [dq]
       have qK:=hide (λw2 (hb:Below (w3.alloc (.cells #[.int .i64 0,.int .i64 0] 72)).drew.heap.size (w3.alloc (.cells #[.int .i64 0,.int .i64 0] 72)).drew w2)=>(show w2.heap[w3.heap.size]?=some (.cells #[.int .i64 0,.int .i64 0] 72 (0,0))/\Below w3.heap.size w3 w2 from
        ⟨(hb.block w3.heap.size (by omega)).trans (ai w3 (.cells #[.int .i64 0,.int .i64 0] 72)),(aJ ((ag w3.heap.size w3).alloc (af _) _)).trans (hb.mono (by omega))⟩))
       clear Ia hT N9 eD tq vN xI wZ Pk Ic Hc XD g0 g1 f0 f1 z0 z1 hd br DI hFF hG U4 o0 o1;go_wp2_with fail
       go_cut [8] from 35 to 54 (λs8 wx=>∃b9,s8=.pointer (some ⟨b9,0,none⟩)/\Hid (wx.heap[b9]?=some (.cells #[.int .i64 G.1,.int .i64 G.2] 72 (0,0))/\Below w3.heap.size w3 wx))
       case first=>
        go_region_law (refine iV rfl 229 _ _ rfl Tryz.call229 #[.agg #[.int .i64 pl,.iface te (uh e)],.slice ca tc.cols.length kV] (by first|(simp [Act.eval];done)|(simp [Act.eval,Act.put];done)|rfl) _ (ae YX _ (by first|exact aJ (ag _ _)|exact aJ ((ag _ _).alloc (af _) _))) ?_;rintro e' w2 ⟨rfl,bO⟩;refine ⟨_,rfl,?_⟩;(first|(have KT:=(ae qK w2 bO).1;obtain ⟨a0,a1⟩:=bj KT;have ga:=λi=>lz KT i;have HX9:=hide KT;clear KT)|skip);have Gb:Hid (Below w3.heap.size w3 w2):=hide (by first|exact (aJ (ag _ _)).trans bO|exact (ae qK w2 bO).2);clear bO)
        all_goals (try go_wp2_with fail)
        all_goals go_meet
        all_goals
         first
         |exact ⟨_,rfl,hide ⟨ai _ _,(ae Gb).alloc (ae Gb).size _⟩⟩
         |exact ⟨_,rfl,hide ⟨aO _ _ 1 _ _ _ (aO _ _ 0 _ _ _ (ae HX9)),((ae Gb).setCell (af _) _).setCell (af _) _⟩⟩
       case rest=>
        obtain ⟨b10,rfl,H10⟩:=hcut;clear c0 c1 c2 c3 c4 c5 c6 q0 q1 q2 YX qK H9 Qa;obtain ⟨Qc,T0⟩:=ae H10;obtain ⟨o0,o1⟩:=bj Qc;have Qa:=hide (oM G.1 G.2 wc);have aiU:=az Qc;clear Qc T0;go_wp2_with fail;refine (ae Qa).mono ?_;rintro r w5 ⟨rfl,vz⟩;obtain ⟨Qc,T0⟩:=ae H10;have Ob:=(vz.block _ aiU).trans Qc;obtain ⟨g0,g1⟩:=bj Ob;have XF:=T0.trans (vz.mono T0.size);have KV:=(ae px).trans (XF.mono (ae px).size);obtain ⟨hS5,XG,hr5,Dv,-⟩:=ae HB w5 KV;obtain ⟨U5,aiV⟩:=ae HT w5 KV;obtain ⟨f0,f1⟩:=bj Dv;have z0:=lz Dv 0;have z1:=lz Dv 1;have auC:=az Dv;have YQ:=hide Dv;have UZ:=hide XG;have vR:=hide KV;have aiW:=hide (du (ae aiT) XF);have aog:=hide (aw (ae aof) XF.size);by_cases hG0:G.1=0
        . have hd:decide (G.1≠0)=false:=by simp [hG0]
          rw [hd];have xJ:=hide (TW (cols:=tc.cols) (e:=e) (pl:=pl) (by rw [<- ae HG];exact hG0));rw [ae xJ] at Oa;obtain ⟨c0,c1,c2,c3,c4,c5,c6⟩:=ow hr5;obtain ⟨q0,q1,q2⟩:=aR U5;obtain ⟨e0,e1,e2,e3,e4,e5,e6,e7⟩:=dG hS5.dV;have hl5:=az hr5;have auD:=az U5;have an8:=az hS5.dV;obtain ⟨W6,RJ⟩:∃W6,W6=w5.alloc (.cells #[.string u.1,.string t.1] 189):=⟨_,rfl⟩;have Gz:Below w5.heap.size w5 W6:=by rw [RJ];exact (ag _ _).alloc (af _) _
          have RL:W6.heap[w5.heap.size]?=some (.cells #[.string u.1,.string t.1] 189 (0,0)):=by rw [RJ];exact ai w5 _
          have Np:=(ae vR).trans (Gz.mono (ae vR).size);have vS:=hide Np;have HW6:=hide RJ;have aiY:=hide (du (ae aiW) Gz);have aoh:=hide Gz.size;obtain ⟨YS,-⟩:=ae HB W6 Np;have N4:=(YS.below (aJ (ag _ _))).Jb hu8 DY;have N5:=(YS.below (aJ ((ag _ _).alloc (af _) (.cells #[.slice none 0 0,.nilFunc] 139)))).Jb hu8 DY;have Zn:=hide RL;obtain ⟨m0,m1,m2,m3,m4,m5,m6,m7⟩:=dG YS.dV;obtain ⟨n0,n1⟩:=bj RL;have auE:=az YS.dV;have aoi:=az RL;have rsn:=lU;have UG:=hide YS.gr;clear Qc T0 vz Ob KV hS5 XG hr5 Dv U5 aiV g0 g1 o0 o1 hd XF RJ Gz RL Np YS;go_wp2_with fail;rw [<- ae HW6];clear c0 c1 c2 c3 c4 c5 c6 q0 q1 q2 f0 f1 z0 z1 e0 e1 e2 e3 e4 e5 e6 e7
          go_cut [10,11] from 55 to 63 (λs10 s11 wx=>(∃b,s10=.pointer (some ⟨b,0,none⟩))/\s11=.bool (eA gl (gk u.1 t.1)).isSome/\Hid (Below W6.heap.size W6 wx))
          case first=>
           cases hg:eA gl (gk u.1 t.1) with
           |none=>
             simp only [hg] at N4 N5;have HGE:=hide hg;go_region
             all_goals (try go_wp2_with fail)
             all_goals go_meet
             all_goals exact ⟨⟨_,rfl⟩,by rw [ae HGE];rfl,hide (aJ ((ag _ _).alloc (af _) _))⟩
           |some g=>
             simp only [hg] at N4 N5;unfold ng.val at N4 N5;obtain ⟨u',t',hk,hu9,ht9,tc',xV,yT⟩:=ae UG _ (kA hg);obtain ⟨sa,mb,Og⟩:=bF.slice yT.shr;have LH:=yT.work;obtain ⟨k2,iy,Ts,-⟩:=LH;rw [Og,Ts] at N4 N5;have rsf:=k9 k2 iy;have HGE:=hide hg;clear yT hk xV Og Ts hg;go_region
             all_goals (try go_wp2_with fail)
             all_goals go_meet
             all_goals exact ⟨⟨_,rfl⟩,by rw [ae HGE];rfl,hide (aJ ((ag _ _).alloc (af _) _))⟩
          case rest=>
           obtain ⟨⟨b11,rfl⟩,rfl,Rw⟩:=hcut;obtain ⟨W7,hW7⟩:∃W7,W7=wc:=⟨_,rfl⟩;subst hW7;have XH:=ae Rw;have U6:=(ae vS).trans (XH.mono (ae vS).size);obtain ⟨hS7,acr,hr7,hf7,-⟩:=ae HB W7 U6;obtain ⟨hq7,aiZ⟩:=ae HT W7 U6;clear m0 m1 m2 m3 m4 m5 m6 m7 n0 n1 N4 N5;have hk7:=(XH.block _ aoi).trans (ae Zn);obtain ⟨m0,m1,m2,m3,m4,m5,m6,m7⟩:=dG hS7.dV;obtain ⟨n0,n1⟩:=bj hk7;obtain ⟨c0,c1,c2,c3,c4,c5,c6⟩:=ow hr7;obtain ⟨q0,q1,q2⟩:=aR hq7;obtain ⟨f0,f1⟩:=bj hf7;have z0:=lz hf7 0;have z1:=lz hf7 1;have OU:(eZ ng.val gl).length=gl.length:=by unfold eZ;rw [aW]
           have hlen:=λty=>hS7.yA.len Tryz.underlying67 ty;rw [OU] at hlen;have Nn:=hlen 3;have auF:=az hS7.dV;have aop:=az hk7;have auG:=az hr7;have auH:=az hq7;have ai0:=az hf7;have HS7:=hide hS7;have HK7:=hide hk7;have HF7:=hide hf7;have HL7:=hide acr;have auI:=hide U6;have acs:=hide (du (ae aiY) XH);have auJ:W2.heap.size<=W7.heap.size:=aw (ae aog) (aw (ae aoh) XH.size);have ai1:=hide aiZ;have ai2:(eZ ng.told gl).length=gl.length:=by unfold eZ;rw [aW]
           rw [ai2,fY] at Oa;have auK:=hS7.few.2;clear XH U6 hS7 acr hr7 hf7 hq7 aiZ hk7 hlen OU ai2;by_cases AY:(eA gl (gk u.1 t.1)).isSome=false/\8<=gl.length
           . have h8:((gl.length:Nat):Int)>=8:=by have:=AY.2;omega
             have hth:=AY.1;rw [hth];go_wp2_with fail;obtain ⟨⟨d0,d1⟩,d2⟩:=eX (ae HL7) (cq _) (ae HF7) (.int .i64 8) (.int .i64 0);refine ay (qb Tryz.results230 rfl d0 d1) rfl ?_;have CV:(eA gl (gk u.1 t.1)).map ng.told=none:=by
              have h1:=AY.1
              cases hx:eA gl (gk u.1 t.1) with
              |none=>rfl
              |some g=>rw [hx] at h1;cases h1
             rw [ae Oa,aA (by decide),aH ⟨by rw [CV];rfl,AY.2⟩];exact (ae HH).same d2 (8,0) rfl
           . have zA:Hid (sO (cw tl gl) u t cs e pl=((0,0),⟨eZ fF.told tl,oK (eZ ng.told gl) (gk u.1 t.1) (sh,e)⟩)):=hide (by
              rw [ae Oa,aA (by decide),aA];rintro ⟨h1,h2⟩;apply AY;refine ⟨?_,h2⟩
              cases hx:eA gl (gk u.1 t.1) with
              |none=>rfl
              |some g=>rw [hx] at h1;cases h1)
             have J1:Hid ((oB gl (gk u.1 t.1)).length<8):=hide (by
              by_cases h8:gl.length<8
              . exact cW (by unfold oB;exact jX _ _) h8
              . cases hx:eA gl (gk u.1 t.1) with
                |none=>rw [hx] at AY;exact absurd ⟨rfl,by omega⟩ AY
                |some g=>
                  have:=TX (kA hx) (aey u.1 t.1);omega)
             have hor:((eA gl (gk u.1 t.1)).isSome=true)\/((eA gl (gk u.1 t.1)).isSome=false/\¬((gl.length:Nat):Int)>=8):=by
              cases hx:(eA gl (gk u.1 t.1)).isSome with
              |true=>exact .inl rfl
              |false=>exact .inr ⟨rfl,λh8=>AY ⟨hx,by omega⟩⟩
             have HCM:=hide (λwr (hb:Below W7.heap.size W7 wr)=>(show Calls Tryz.prog 232 #[.iface te (uh e),.slice ca tc.cols.length kV] wr (λr w'=>∃v,r=.returned v/\ef w' wr.heap.size v (nz tc.cols) (λrow=>gg tc.cols row e)/\Below wr.heap.size wr w') from by
              rw [<- jW];exact MK (by omega) e Bl 2 (ae xJ) wr wr.heap.size _ (bF.below (ae ai1) hb (af _)) (af _)))
             have HPU:=hide (λw8 (hb:Below W7.heap.size W7 w8) v=>((ae HS7).below hb).yA.put Tryz.qG Tryz.underlying67 (E6 hu8 DY) (by unfold eZ;rw [aW];omega) v);have HC8:=hide (λw8 (hb:Below W7.heap.size W7 w8)=>(show (w8.cell? ⟨p,7,none⟩=some (.map (some mg))/\p<w8.heap.size)/\(w8.cell? ⟨w5.heap.size,0,none⟩=some (.string u.1)/\w8.cell? ⟨w5.heap.size,1,none⟩=some (.string t.1)/\w5.heap.size<w8.heap.size) from by
              have h1:=((ae HS7).below hb).dV;have h2:=(hb.block _ aop).trans (ae HK7);exact ⟨⟨(dG h1).2.2.2.2.2.2.2,az h1⟩,(bj h2).1,(bj h2).2,az h2⟩))
             clear AY m0 m1 m2 m3 m4 m5 m6 c0 c1 c2 c3 c4 c5 q1 q2 f0 f1 z0 z1;go_upto_region 12 with fail
             go_cut [11,73] from 64 to 72 (λ_ s73 wx=>s73=.bool false/\W7=wx)
             case first=>
              rcases hor with hth|⟨hth,h8⟩
              all_goals
               rw [hth];go_wp2_with fail;go_meet
               first|exact ⟨rfl,rfl⟩|exact ⟨by simp [h8],rfl⟩|exact ⟨by simp_all,rfl⟩
             case rest=>
             obtain ⟨rfl,rfl⟩:=hcut;clear Nn;go_wp2_with fail
             go_cut [] from 74 to 250 (λwx=>Hid (∃w8 k2 iy lo,Below W7.heap.size W7 w8/\W7.heap.size<=lo/\lo<=w8.heap.size/\ef w8 lo (.func (.func k2) #[] iy) (nz tc.cols) (λrow=>gg tc.cols row e)/\j7 wx 189 mg (oK (eZ ng.val gl) (gk u.1 t.1) (.agg #[.slice ka n iG,.func (.func k2) #[] iy]))/\w8.grownBy wx (some mg)))
             case first=>
              go_region_law (refine iV rfl 232 _ _ rfl Tryz.call232 #[.iface te (uh e),.slice ca tc.cols.length kV] (by first|(simp [Act.eval];done)|(simp [Act.eval,Act.put];done)|rfl) _ (ae HCM _ (aJ (ag _ _))) ?_;rintro e' w8 ⟨v8,rfl,N6,B5⟩;have aeM:=N6;obtain ⟨k2,iy,rfl,-⟩:=aeM;refine ⟨_,rfl,?_⟩;have Y0:Hid (Below W7.heap.size W7 w8):=hide ((aJ (ag _ _)).trans B5);have HZ8:=hide B5.size;have HWK:=hide N6;obtain ⟨w9,hup,hM,iu⟩:=ae HPU w8 (ae Y0) (.agg #[.slice ka n iG,.func (.func k2) #[] iy]);have HM9:=hide hM;have HG9:=hide iu;obtain ⟨⟨j0,j1⟩,j2,j3,j4⟩:=ae HC8 w8 (ae Y0);clear N6 B5 hM iu)
              all_goals (try go_wp2_with fail)
              all_goals go_meet
              all_goals exact hide ⟨w8,k2,iy,_,ae Y0,af _,ae HZ8,ae HWK,ae HM9,ae HG9⟩
             case rest=>
              obtain ⟨w8,k2,iy,lo,B5,pb,aor,N6,hM,iu⟩:=ae hcut;have hmg:=(ae HH).yA.lt;have RU:w.heap.size+1≠mg:=by omega
              have h7s:=B5.size;have LA:=(iu.block (w.heap.size+1) (by omega) (λe=>RU (aS e))).trans ((B5.block _ ai0).trans (ae HF7));have uA:=ae G9;have aos:0<cs.length:=nM.mpr hcs;have HGF:Hid (WL tc.cols (sh,e)):=hide ⟨by show 0<sh.length;rw [uA.1];simp;omega,aw uA.2.1 h5,uA.2.2,Bl,ae xJ⟩;have E5:=hide (λW9 (e9:W9=(wc.setCell ⟨w.heap.size+1,0,none⟩ (.int .i64 0)).setCell ⟨w.heap.size+1,1,none⟩ (.int .i64 0))=>TV (ae HH) hu.1 ht.1 (ae HTM) (ae HL7) B5 iu ai0 e9 (ae acs) (by omega) pb N6 hM (ae J1) (ae HGF) (ae zA));obtain ⟨f0',f1'⟩:=bj LA;have y0:=lz LA 0;have y1:=lz LA 1;have aot:=az LA;have HFC:=hide LA;clear B5 pb aor N6 hM iu hmg RU LA hcut h7s m7 n0 n1 c6 q0 HCM HPU HC8 HK7 HS7 acs ai1 xJ zA J1 G9 HB HT uA aos HGF;go_wp2_with fail;obtain ⟨d0,d1⟩:=bj (aO _ _ 1 _ _ (.int .i64 0) (aO _ _ 0 _ _ (.int .i64 0) (ae HFC)));refine ay (qb Tryz.results230 rfl d0 d1) rfl ?_;exact ae E5 _ rfl
        . have hd:decide (G.1≠0)=true:=by simpa using hG0
          rw [hd];have zA:Hid (sO (cw tl gl) u t cs e pl=(G,cw tl gl)):=hide (by rw [ae Oa,ae HG];exact XC (by rw [<- ae HG];exact hG0) _ _);clear Qc T0 vz Ob KV hS5 XG hr5 Dv U5 aiV o0 o1 hd XF;go_wp2_with fail;obtain ⟨⟨d0,d1⟩,d2⟩:=eX (ae UZ) (cq _) (ae YQ) (.int .i64 G.1) (.int .i64 G.2);refine ay (qb Tryz.results230 rfl d0 d1) rfl ?_;rw [ae zA];exact (ae HH).same d2 G rfl
     . obtain DI:eJ tc.cols cs []=.inl F:=by
        rcases hT with h1|⟨sh,-,h2,-⟩
        . exact h1
        . rw [h2] at hF0;exact absurd rfl hF0
       rw [DI] at Oa;have hd:decide (F.1≠0)=true:=by simpa using hF0
       rw [hd];clear Ia hT N9 eD tq vN xI wZ Pk Ic Hc XD hd DI;go_wp2_with fail;obtain ⟨⟨d0,d1⟩,d2⟩:=eX (ae I8) (cq _) (ae HF3) (.int .i64 F.1) (.int .i64 F.2);refine ay (qb Tryz.results230 rfl d0 d1) rfl ?_;rw [ae Oa];exact (ae HH).same d2 F rfl
end
end Go.Proofs.YteniahoehoncjaaGreatDoor
