import Derived.Test.YteniahoehoncjaaGreatDoorQAH
set_option maxHeartbeats 99999999
set_option maxRecDepth 100000
namespace Go.Proofs.YteniahoehoncjaaGreatDoor
open Go.RowKit
theorem PO {t:ByteArray}(h:sL ei t<16):fE (.sign t)=(0,0,⟨#[]⟩,false):=by
 have g3:¬aB (.sign t)=3:=by simp only [aB];omega
 have g4:¬aB (.sign t)=4:=by simp only [aB];omega
 have g40:¬aB (.sign t)=40:=by simp only [aB];omega
 have g41:¬aB (.sign t)=41:=by simp only [aB];omega
 unfold fE;rw [aA g3,aA g4,aA g40,aA g41]
theorem aaC {sub:Option vI}{m:Mode}(hw:m.tk.wf)(ho:m.is cI=false) :
 (aB m.tk=2->gM sub m=(.col (bn m.tk) m.place,m.next))/\(aB m.tk≠2->qL (gM sub m).1=Ku (fE m.tk).1 (fE m.tk).2.1 (fE m.tk).2.2.1/\(gM sub m).2=if (fE m.tk).2.2.2 then m.next else m.wrong 2):=by
 unfold gM;rw [aA (by rw [ho];decide)];have it:m.is yr=decide (aB m.tk=40):=eu (i:=19) hw rfl (by decide);have jf:m.is sH=decide (aB m.tk=41):=eu (i:=20) hw rfl (by decide)
 cases hk:m.tk with
 |stop=>exact ⟨λh=>by simp [aB] at h,λ_=>⟨rfl,rfl⟩⟩
 |bad=>exact ⟨λh=>by simp [aB] at h,λ_=>⟨rfl,rfl⟩⟩
 |name t=>exact ⟨λ_=>rfl,λh=>absurd rfl h⟩
 |num t=>exact ⟨λh=>by simp [aB] at h,λ_=>⟨rfl,rfl⟩⟩
 |str t=>exact ⟨λh=>by simp [aB] at h,λ_=>⟨rfl,rfl⟩⟩
 |sign t=>
   rw [hk] at hw;have ht:t∈ei:=hw;have h1:sL ei t<16:=(ak.mp (Az ht)).1;have hc:fE (.sign t)=(0,0,⟨#[]⟩,false):=PO h1;refine ⟨λh=>by simp only [aB] at h;omega,λ_=>?_⟩;rw [hc];exact ⟨rfl,rfl⟩
 |word t=>
   refine ⟨λh=>by simp only [aB] at h;omega,λ_=>?_⟩;unfold Mode.is at it jf;rw [hk] at it jf;simp only at it jf ⊢;simp only [it,jf];unfold fE;have g3:¬aB (.word t)=3:=by simp only [aB];omega
   have g4:¬aB (.word t)=4:=by simp only [aB];omega
   rw [aA g3,aA g4];by_cases CG:aB (.word t)=40
   . rw [aH CG,aH (by simpa using CG)]
     exact ⟨rfl,rfl⟩
   . rw [aA CG,aA (by simpa using CG)]
     by_cases Pt:aB (.word t)=41
     . rw [aH Pt,aH (by simpa using Pt)]
       exact ⟨rfl,rfl⟩
     . rw [aA Pt,aA (by simpa using Pt)]
       exact ⟨rfl,rfl⟩
theorem RE {m:Mode}(hw:m.tk.wf):m.is cI=decide (aB m.tk=11):=iW (i:=6) hw rfl (by decide)
theorem FR {w:World}{p:Nat}{x:cB}{m:Mode}{l:List Tok}(h:cO w p x m l)(Gy:¬aB m.tk=11)(h2:¬aB m.tk=2)(ck cn:Nat)(cs:ByteArray)
 (hC:∀W,Calls Tryz.prog 132 #[iZ m.tk m.place] W λr w'=>r=.returned (.tuple #[.int .i64 ck,.agg #[.bool false,.int .i64 cn,.string cs],.bool false])/\Below W.heap.size W w'):Calls Tryz.prog 196 #[.pointer (some ⟨p,0,none⟩)] w λr w'=>
 r=.returned (Ku ck cn cs)/\bI w w' p x (m.wrong 2):=by
 have eB:=h.bN.lt;have e2:((aB m.tk:Int)==2)=false:=by rw [aj];omega
 have hd:decide (aB m.tk∈[11])=false:=by simpa using Gy
 have iw:Below w.heap.size w (w.alloc (.cells #[.int .i64 11] 100)):=(ag _ _).alloc (af _) _;have HI:=hide (lh (h.below iw) [11] w.heap.size 1 (wV w 11) (by simp) (by simp));have HA:=hide ((PG.start h).below iw);rw [hd] at HI;clear h iw Gy h2 hd;go_enter Tryz.func196,Tryz.ntmps196;go_wp2_with fail;refine (ae HI).mono ?_;rintro r w1 ⟨rfl,bL⟩;have qp:=hide ((ae HA).below bL);clear bL;go_wp2_with fail;refine (gJ (ae qp).bN).mono ?_;rintro r w2 ⟨rfl,S2⟩;obtain ⟨x2,l2,A2⟩:=(ae qp).call S2;have hp2:=A2.lt;have yE:=hide (A2.below ((ag _ _).alloc (af _) (.cells #[.int .i64 (aB m.tk),.int .i64 m.place,.string (bn m.tk),.int .i64 (dt m.tk)] 102)));have HC:=hide (hC (w2.alloc (.cells #[.int .i64 (aB m.tk),.int .i64 m.place,.string (bn m.tk),.int .i64 (dt m.tk)] 102)));have TD:=hide (ai w2 (.cells #[.int .i64 (aB m.tk),.int .i64 m.place,.string (bn m.tk),.int .i64 (dt m.tk)] 102));clear S2 A2;unfold iZ at HC ⊢;go_wp2_with fail;refine (ae HC).mono ?_;rintro r w3 ⟨rfl,eD⟩;have A4:=(ae yE).below eD;have nS:=(eD.block w2.heap.size (by simp)).trans (ae TD);have PI:w2.heap.size<w3.heap.size:=fK nS;have me:Below w3.heap.size w3 (w3.alloc (.cells #[.bool false,.int .i64 (cn:Nat),.string cs] 214)):=(ag _ _).alloc (af _) _;have zu:=(me.block w2.heap.size PI).trans nS;have aay:=hide zu;have PJ:=hide (ai w3 (.cells #[.bool false,.int .i64 (cn:Nat),.string cs] 214));have He:=hide (A4.below me);obtain ⟨t0,t1,t2,t3⟩:=bD zu;clear eD A4 nS me zu;go_wp2_with fail;refine (mX (ae He).bN m.tk m.place).mono ?_;rintro r w5 ⟨rfl,S5⟩;rw [pL] at S5;obtain ⟨x5,l5,A5⟩:=(ae He).call S5;have WY:=mP.block S5 (ae PJ) (by omega);obtain ⟨n0,n1,n2⟩:=qM WY;have HS:=hide A5.step;clear S5 A5 WY t0 t1 t2 t3;go_wp2_with fail;go_ret;exact ⟨rfl,ae HS⟩
theorem Dr {w:World}{p:Nat}{x:cB}{m:Mode}{l:List Tok}(h:cO w p x m l)(Gy:¬aB m.tk=11)(h2:¬aB m.tk=2)(ck cn:Nat)(cs:ByteArray)
 (hC:∀W,Calls Tryz.prog 132 #[iZ m.tk m.place] W λr w'=>r=.returned (.tuple #[.int .i64 ck,.agg #[.bool false,.int .i64 cn,.string cs],.bool true])/\Below W.heap.size W w'):Calls Tryz.prog 196 #[.pointer (some ⟨p,0,none⟩)] w λr w'=>
 r=.returned (Ku ck cn cs)/\bI w w' p x m.next:=by
 have eB:=h.bN.lt;have e2:((aB m.tk:Int)==2)=false:=by rw [aj];omega
 have hd:decide (aB m.tk∈[11])=false:=by simpa using Gy
 have iw:Below w.heap.size w (w.alloc (.cells #[.int .i64 11] 100)):=(ag _ _).alloc (af _) _;have HI:=hide (lh (h.below iw) [11] w.heap.size 1 (wV w 11) (by simp) (by simp));have HA:=hide ((PG.start h).below iw);rw [hd] at HI;clear h iw Gy h2 hd;go_enter Tryz.func196,Tryz.ntmps196;go_wp2_with fail;refine (ae HI).mono ?_;rintro r w1 ⟨rfl,bL⟩;have qp:=hide ((ae HA).below bL);clear bL;go_wp2_with fail;refine (gJ (ae qp).bN).mono ?_;rintro r w2 ⟨rfl,S2⟩;obtain ⟨x2,l2,A2⟩:=(ae qp).call S2;have hp2:=A2.lt;have yE:=hide (A2.below ((ag _ _).alloc (af _) (.cells #[.int .i64 (aB m.tk),.int .i64 m.place,.string (bn m.tk),.int .i64 (dt m.tk)] 102)));have HC:=hide (hC (w2.alloc (.cells #[.int .i64 (aB m.tk),.int .i64 m.place,.string (bn m.tk),.int .i64 (dt m.tk)] 102)));have TD:=hide (ai w2 (.cells #[.int .i64 (aB m.tk),.int .i64 m.place,.string (bn m.tk),.int .i64 (dt m.tk)] 102));clear S2 A2;unfold iZ at HC ⊢;go_wp2_with fail;refine (ae HC).mono ?_;rintro r w3 ⟨rfl,eD⟩;have A4:=(ae yE).below eD;have nS:=(eD.block w2.heap.size (by simp)).trans (ae TD);have PI:w2.heap.size<w3.heap.size:=fK nS;have me:Below w3.heap.size w3 (w3.alloc (.cells #[.bool false,.int .i64 (cn:Nat),.string cs] 214)):=(ag _ _).alloc (af _) _;have zu:=(me.block w2.heap.size PI).trans nS;have aay:=hide zu;have PJ:=hide (ai w3 (.cells #[.bool false,.int .i64 (cn:Nat),.string cs] 214));have He:=hide (A4.below me);obtain ⟨t0,t1,t2,t3⟩:=bD zu;clear eD A4 nS me zu;obtain ⟨n0,n1,n2⟩:=qM (ae PJ);have HS:=hide (ae He).step;go_wp2_with fail;go_ret;exact ⟨rfl,ae HS⟩
theorem KH {sub:Option vI}{Q:Nat->Mode->Prop}
 (hbr:∀(w:World) (p:Nat) (x:cB) (m:Mode) (l:List Tok),cO w p x m l->dK w->12<=p->Q x.depth m->m.is cI=true->Calls Tryz.prog 197 #[.pointer (some ⟨p,0,none⟩)] w λr w'=>
   ∃e,r=.returned (qL e)/\bI w w' p x (gM sub m).2/\((gM sub m).2.alive->e=(gM sub m).1)) :
 vB 196 (gM sub) Q:=by
 intro w p x m l h ho hp hq;have eB:=h.bN.lt;have HH:=hide h;have iw:Below w.heap.size w (w.alloc (.cells #[.int .i64 11] 100)):=(ag _ _).alloc (af _) _;have RD:=RE h.xF;have HI:=hide (lh (h.below iw) [11] w.heap.size 1 (wV w 11) (by simp) (by simp));have Vp:=hide (λq=>aaC (sub:=sub) h.xF q);have HA:=hide ((PG.start h).below iw);have HO:=hide (ho.below iw (by omega));have HQ:=hide hq;clear h ho hq iw;by_cases Gy:aB m.tk=11
 . have nx:m.is cI=true:=by rw [RD];simpa using Gy
   have hd:decide (aB m.tk∈[11])=true:=by simpa using Gy
   rw [hd] at HI;have Hd:=hide nx;clear Gy RD hd nx;go_enter Tryz.func196,Tryz.ntmps196;go_wp2_with fail;refine (ae HI).mono ?_;rintro r w1 ⟨rfl,bL⟩;have A1:=(ae HA).below bL;have HBR:=hide (hbr _ p x m l A1.bN ((ae HO).below bL (by simp;omega)) hp (ae HQ) (ae Hd));have qp:=hide A1;clear bL A1;go_wp2_with fail;refine (ae HBR).mono ?_;rintro r w2 ⟨e,rfl,S2,he⟩;obtain ⟨te,ve,jW⟩:=ek e;obtain ⟨x2,l2,A2⟩:=(ae qp).call S2;have HS:=hide A2.step;have HE:=hide he;have yD:=hide jW;rw [jW];clear S2 A2 he jW;go_wp2_with fail;go_ret;exact ⟨e,(by rw [ae yD];first|done|rfl),ae HS,ae HE⟩
 . have nx:m.is cI=false:=by rw [RD];simpa using Gy
   have hd:decide (aB m.tk∈[11])=false:=by simpa using Gy
   rw [hd] at HI;have HM:=hide (ae Vp nx);have H11:=hide Gy;clear Gy RD hd nx;by_cases h2:aB m.tk=2
   . have e2:((aB m.tk:Int)==2)=true:=by rw [bz];omega
     have hr:=(ae HM).1 h2;rw [hr];clear h2 hr;go_enter Tryz.func196,Tryz.ntmps196;go_wp2_with fail;refine (ae HI).mono ?_;rintro r w1 ⟨rfl,bL⟩;have qp:=hide ((ae HA).below bL);clear bL;go_wp2_with fail;refine (gJ (ae qp).bN).mono ?_;rintro r w2 ⟨rfl,S2⟩;obtain ⟨x2,l2,A2⟩:=(ae qp).call S2;have HS:=hide (A2.below ((ag _ _).alloc (af _) (.cells #[.int .i64 (aB m.tk),.int .i64 m.place,.string (bn m.tk),.int .i64 (dt m.tk)] 102))).step;clear S2 A2;unfold iZ;go_wp2_with fail;go_ret;exact ⟨.col (bn m.tk) m.place,rfl,ae HS,λ_=>rfl⟩
   . obtain ⟨pj,N3⟩:=(ae HM).2 h2
     have hC:=Ja m.tk m.place;rw [N3];generalize fE m.tk=cR at hC pj ⊢;obtain ⟨ck,cn,cs,cf⟩:=cR
     cases cf
     . refine (FR (ae HH) (ae H11) h2 ck cn cs hC).mono ?_
       rintro r w' ⟨rfl,S⟩;exact ⟨(gM sub m).1,by rw [pj],S,λ_=>rfl⟩
     . refine (Dr (ae HH) (ae H11) h2 ck cn cs hC).mono ?_
       rintro r w' ⟨rfl,S⟩;exact ⟨(gM sub m).1,by rw [pj],S,λ_=>rfl⟩
theorem TF (m:Mode)(e:Nat):m.next.fail e m.place=m.wrong e:=by
 cases m with
 |dead a b=>rfl
 |live t ts=>cases ts<;>rfl
structure wW (w w':World)(p:Nat)(x:cB)(m':Mode)(d:Nat):Prop where
 ex:∃x' l',cO w' p x' m' l'/\x'.depth=d/\tI w x x'
 keeps:aQ (Other p w) w w'
theorem cO.deep {w:World}{p:Nat}{x:cB}{m:Mode}{l:List Tok}(h:cO w p x m l)(d:Nat):cO (w.setCell ⟨p,2,none⟩ (.int .i64 (d:Nat))) p { x with depth:=d } m l:=by
 refine h.put (y:={ x with depth:=d }) 2 _ (by simp [mK]) rfl ?_;have hm:=h.mode
 cases m with
 |dead e b=>exact hm
 |live t ts=>exact hm
theorem MY {w:World}{p:Nat}{x:cB}{m:Mode}{l:List Tok}(h:cO w p x m l)(d:Nat)(hd:x.depth=d+1)(hs:d<=100):Calls Tryz.prog 183 #[.pointer (some ⟨p,0,none⟩)] w λr w'=>
 r=.returned (.tuple #[])/\wW w w' p x m d:=by
 have p2:w.cell? ⟨p,2,none⟩=some (.int .i64 ((d:Int)+1)):=(h.bN.cell 2).trans (by simp [mK,hd]);have f2:=h.bN.fz 2;have QP:=h.bN.lt;have HE:=hide (show wW w (w.setCell ⟨p,2,none⟩ (.int .i64 (d:Nat))) p x m d from ⟨⟨_,l,h.deep d,rfl,λ_ h=>.inl h⟩,(aQ.cQ (ag _ _)).mW 2 _⟩);clear h hd;go_enter Tryz.func183,Tryz.ntmps183;go_wp2_with fail;go_end0;refine ⟨rfl,?_⟩;have e:(d:Int)+1 - 1=d:=by omega
 (try rw [e])
 exact ae HE
theorem wW.Ph {w w3:World}{p:Nat}{x x3:cB}{m':Mode}{l3:List Tok}(A:mP w w3 p x x3 m' l3)(d:Nat)(i:Int)(hi:i=d)(a b c e:Value) :
 wW w (((((w3.setCell ⟨p,2,none⟩ (.int .i64 i)).setCell ⟨w.heap.size,0,none⟩ a).setCell ⟨w.heap.size,1,none⟩ b).setCell ⟨w.heap.size,2,none⟩ c).setCell ⟨w.heap.size,3,none⟩ e) p x m' d:=by
 subst hi;have hlp:=A.lp;have h1:w.heap.size≠p:=by omega
 have h2:({ x3 with depth:=d }:cB).v.ownBlock≠some w.heap.size:=λe=>A.free _ e rfl;have hn:¬Other p w w.heap.size:=λe=>bx _ e.2;exact ⟨⟨_,l3,((((A.bN.deep d).other h1 h2 0 a).other h1 h2 1 b).other h1 h2 2 c).other h1 h2 3 e,rfl,A.row⟩,((((A.keeps.mW 2 _).setCell (p:=⟨w.heap.size,0,none⟩) hn a).setCell (p:=⟨w.heap.size,1,none⟩) hn b).setCell (p:=⟨w.heap.size,2,none⟩) hn c).setCell (p:=⟨w.heap.size,3,none⟩) hn e⟩
theorem MZ {w:World}{p:Nat}{x:cB}{m:Mode}{l:List Tok}(h:cO w p x m l)(hd:x.depth<=8):Calls Tryz.prog 182 #[.pointer (some ⟨p,0,none⟩)] w λr w'=>
 r=.returned (iZ m.tk m.place)/\wW w w' p x (if x.depth=8 then m.wrong 3 else m.next) (x.depth+1):=by
 have HA:=hide (mP.start h (.cells #[.int .i64 0,.int .i64 0,.string ⟨#[]⟩,.int .i64 0] 102));have eB:=h.bN.lt;clear h;go_enter Tryz.func182,Tryz.ntmps182;go_wp2_with fail;refine (gJ (ae HA).bN).mono ?_;rintro r w1 ⟨rfl,S⟩;obtain ⟨x1,l1,A1⟩:=(ae HA).call S;have fN:w1.heap[w.heap.size]?=some (.cells #[.int .i64 0,.int .i64 0,.string ⟨#[]⟩,.int .i64 0] 102 (0,0)):=mP.block S (ai w _) (by omega);have bO:Below w1.heap.size w1 (w1.alloc (.cells #[.int .i64 (aB m.tk),.int .i64 m.place,.string (bn m.tk),.int .i64 (dt m.tk)] 102)):=(ag _ _).alloc (af _) _;have A2:=A1.below bO;have nS:=ai w1 (.cells #[.int .i64 (aB m.tk),.int .i64 m.place,.string (bn m.tk),.int .i64 (dt m.tk)] 102);have Ks:=(bO.block w.heap.size A1.big).trans fN;have BI:=A1.big;have p2:(w1.alloc (.cells #[.int .i64 (aB m.tk),.int .i64 m.place,.string (bn m.tk),.int .i64 (dt m.tk)] 102)).cell? ⟨p,2,none⟩=some (.int .i64 x.depth):=(A2.bN.bN.cell 2).trans (by simp [mK,A2.depth]);have rE:=hide A2;have TD:=hide nS;have N1:=hide Ks;have Vq:=A2.bN.bN.lt;have LN:=bO.size;obtain ⟨t0,t1,t2,t3⟩:=bD nS;clear S A1 A2 fN bO nS Ks;unfold iZ;by_cases h8:x.depth=8
 . have e8:((x.depth:Int)==8)=true:=by rw [bz];omega
   have H8:=hide h8;clear h8;go_wp2_with fail;refine (Rj (ae rE).bN 3 m.place (by decide)).mono ?_;rintro r w3 ⟨rfl,S3⟩;rw [TF] at S3;obtain ⟨x3,l3,A3⟩:=(ae rE).call S3;have Hv:=mP.block S3 (ae TD) (by omega);have PR:=mP.block S3 (ae N1) (by omega);obtain ⟨y0,y1,y2,y3⟩:=bD Hv;obtain ⟨q0,q1,q2,q3⟩:=bD PR;have z0:=aK PR 0;have z1:=aK PR 1;have z2:=aK PR 2;have z3:=aK PR 3;have p3:w3.cell? ⟨p,2,none⟩=some (.int .i64 x.depth):=(A3.bN.bN.cell 2).trans (by simp [mK,A3.depth]);have f3:=A3.bN.bN.fz 2;have Zi:=A3.bN.bN.lt;have yE:=hide A3;have atV:=hide PR;have hpr:¬(p=w.heap.size):=by omega
   have iq:¬(w1.heap.size=w.heap.size):=by omega
   have aac:¬(w1.heap.size=p):=by omega
   clear S3 A3 Hv PR;go_wp2_with fail
   (try simp only [Exit.inBlock,Exit.then])
   refine ay (v:=iZ m.tk m.place) (by simp [results,Tryz.results182,go_sem,iZ,q0,q1,q2,q3];try rfl) rfl ?_;refine ⟨rfl,?_⟩;exact wW.Ph (ae yE) _ _ (by simp) _ _ _ _
 . have e8:((x.depth:Int)==8)=false:=by rw [aj];omega
   have H8:=hide h8;clear h8;obtain ⟨q0,q1,q2,q3⟩:=bD (ae N1);have z0:=aK (ae N1) 0;have z1:=aK (ae N1) 1;have z2:=aK (ae N1) 2;have z3:=aK (ae N1) 3;have f3:=(ae rE).bN.bN.fz 2;have hpr:¬(p=w.heap.size):=by omega
   have iq:¬(w1.heap.size=w.heap.size):=by omega
   have aac:¬(w1.heap.size=p):=by omega
   go_wp2_with fail
   (try simp only [Exit.inBlock,Exit.then])
   refine ay (v:=iZ m.tk m.place) (by simp [results,Tryz.results182,go_sem,iZ,q0,q1,q2,q3];try rfl) rfl ?_;refine ⟨rfl,?_⟩;exact wW.Ph (ae rE) _ _ (by simp) _ _ _ _
def mB (d:Nat)(m:Mode):Mode:=if d=8 then m.wrong 3 else m.next
theorem wW.back {w w1 w2 w3:World}{p:Nat}{x x1 x2:cB}{l1 l2:List Tok}{m1 m2 m3:Mode}(_hx:cO w1 p x1 m1 l1)(hr:tI w x x1)(k:aQ (Other p w) w w1)(S:bI w1 w2 p x1 m2)(_h2:cO w2 p x2 m2 l2)(N3:tI w1 x1 x2)(D:wW w2 w3 p x2 m3 x.depth):bI w w3 p x m3:=by
 obtain ⟨x3,l3,h3,hd3,Pk⟩:=D.ex;have k1:=k.size;have k2:=S.keeps.size;refine ⟨⟨x3,l3,h3,hd3,λg hg=>?_⟩,(k.dz S.keeps).dz D.keeps⟩;rcases Pk g hg with e|e
 . rcases N3 g e with e|e
   . exact hr g e
   . exact .inr (by omega)
 . exact .inr (by omega)
theorem xL {F:Nat}{S:Mode->Ex×Mode}{Q:Nat->Mode->Prop}(hE:∀(args:Array Value) (w:World),Sem.run Tryz.prog (callFunc F args) w=.ok (.enter F args) w)(hF:vB F S Q){w:World}{p:Nat}{x:cB}{m:Mode}{l:List Tok}(h:cO w p x m l)(ho:dK w)(hp:12<=p)(hd:x.depth<=8)(hq:Q (x.depth+1) (mB x.depth m))(c:Nat) :
 Calls Tryz.prog 168 #[.pointer (some ⟨p,0,none⟩),.int .i64 (c:Nat),.func (.func F) #[.pointer (some ⟨p,0,none⟩)] #[]] w λr w'=>
 ∃e,r=.returned (.iface 329 (.agg #[.int .i64 (c:Nat),.int .i64 m.place,qL e]))/\bI w w' p x (S (mB x.depth m)).2/\((S (mB x.depth m)).2.alive->e=(S (mB x.depth m)).1):=by
 have eB:=h.bN.lt;have H:=hide h;have HO:=hide ho;have HQ:=hide hq;clear h ho hq;go_enter Tryz.func168,Tryz.ntmps168;go_wp2_with fail;refine (MZ (ae H) hd).mono ?_;rintro r w1 ⟨rfl,D1⟩;obtain ⟨x1,l1,h1,sM,pj⟩:=D1.ex;have bL:Below w1.heap.size w1 (w1.alloc (.cells #[.int .i64 (aB m.tk),.int .i64 m.place,.string (bn m.tk),.int .i64 (dt m.tk)] 102)):=(ag _ _).alloc (af _) _;have kd:=D1.keeps.size;have ke:=(dK.keep (ae HO) D1.keeps hp eB).below bL (by omega);have HF:=hide (hF _ p x1 (mB x.depth m) l1 (h1.below bL) ke hp (by rw [sM];exact ae HQ));have H1:=hide (show cO _ p x1 (mB x.depth m) l1 from h1.below bL);have K1:=hide (D1.keeps.dz (aQ.cQ bL));have HD1:=hide sM;have YD:=hide pj;have HT:=hide (ai w1 (.cells #[.int .i64 (aB m.tk),.int .i64 m.place,.string (bn m.tk),.int .i64 (dt m.tk)] 102));have QR:=h1.bN.lt;clear D1 h1 sM pj bL ke;unfold iZ;go_wp2_with fail;refine (ae HF).mono ?_;rintro r w2 ⟨e,rfl,S2,he⟩;obtain ⟨x2,l2,h2,I5,N3⟩:=S2.ex;obtain ⟨te,ve,jW⟩:=ek e;have Gu:=hide S2;have H2:=hide h2;have xY:=hide N3;have HE:=hide he;have yD:=hide jW;have HL:=hide (MY h2 x.depth (by rw [I5,ae HD1]) (by omega));have Ld:=hide (mP.block S2 (ae HT) (by omega));rw [jW];clear S2 h2 I5 N3 he jW;go_wp2_with fail;refine (ae HL).mono ?_;rintro r w3 ⟨rfl,D3⟩;have nS:=(D3.keeps.block w1.heap.size ⟨by omega,fK (ae Ld)⟩).trans (ae Ld);obtain ⟨y0,y1,y2,y3⟩:=bD nS;have HS:=hide (wW.back (ae H1) (ae YD) (ae K1) (ae Gu) (ae H2) (ae xY) D3);clear D3 nS;go_wp2_with fail;go_ret;exact ⟨e,(by rw [ae yD];first|done|rfl),ae HS,ae HE⟩
theorem FT {S:Mode->Ex×Mode}{Q:Nat->Mode->Prop}(hF:vB 109 S Q){w:World}{p:Nat}{x:cB}{m:Mode}{l:List Tok}(h:cO w p x m l)(ho:dK w)(hp:12<=p)(hd:x.depth<=8)(hq:Q (x.depth+1) (mB x.depth m)) :
 Calls Tryz.prog 197 #[.pointer (some ⟨p,0,none⟩)] w λr w'=>
 ∃e,r=.returned (qL e)/\bI w w' p x ((S (mB x.depth m)).2.take eG)/\((S (mB x.depth m)).2.alive->e=(S (mB x.depth m)).1):=by
 have eB:=h.bN.lt;have H:=hide h;have HO:=hide ho;have HQ:=hide hq;clear h ho hq;go_enter Tryz.func197,Tryz.ntmps197;go_wp2_with fail;refine (MZ (ae H) hd).mono ?_;rintro r w1 ⟨rfl,D1⟩;obtain ⟨x1,l1,h1,sM,pj⟩:=D1.ex;have kd:=D1.keeps.size;have ke:=dK.keep (ae HO) D1.keeps hp eB;have HF:=hide (hF _ p x1 (mB x.depth m) l1 h1 ke hp (by rw [sM];exact ae HQ));have H1:=hide (show cO _ p x1 (mB x.depth m) l1 from h1);have K1:=hide D1.keeps;have HD1:=hide sM;have YD:=hide pj;clear D1 h1 sM pj ke;unfold iZ;go_wp2_with fail;refine (ae HF).mono ?_;rintro r w2 ⟨e,rfl,S2,he⟩;obtain ⟨te,ve,jW⟩:=ek e;obtain ⟨x2,l2,A2⟩:=(PG.start (ae H1)).call S2;have rE:=hide A2;have HE:=hide he;have yD:=hide jW;rw [jW];clear S2 A2 he jW;go_wp2_with fail;refine (gK (ae rE).bN 12).mono ?_;rintro r w3 ⟨rfl,S3⟩;rw [oj (ae rE).bN] at S3;obtain ⟨x3,l3,A3⟩:=(ae rE).call S3;have yE:=hide A3;have HL:=hide (MY A3.bN x.depth (by rw [A3.depth,ae HD1]) (by omega));clear S3 A3;unfold iZ;go_wp2_with fail;refine (ae HL).mono ?_;rintro r w4 ⟨rfl,D4⟩;have HS:=hide (wW.back (ae H1) (ae YD) (ae K1) (ae yE).step (ae yE).bN (ae yE).row D4);clear D4;go_wp2_with fail;go_ret;exact ⟨e,(by rw [ae yD];first|done|rfl),ae HS,ae HE⟩
theorem FU {F:Nat}{S:Mode->Ex×Mode}{Q:Nat->Mode->Prop}(hE:∀(args:Array Value) (w:World),Sem.run Tryz.prog (callFunc F args) w=.ok (.enter F args) w)(hQ:uO Q)(hF:vB F S Q){w:World}{p:Nat}{x:cB}{m:Mode}{l:List Tok}(h:cO w p x m l)(ho:dK w)(hp:12<=p)(hq:Q x.depth m)(e0:Ex)(c:Nat)(hc:opsL[aB m.tk]?=some c) :
 Calls Tryz.prog 153 #[.pointer (some ⟨p,0,none⟩),qL e0,.func (.func F) #[.pointer (some ⟨p,0,none⟩)] #[]] w λr w'=>
 ∃e,r=.returned (.iface 311 (.agg #[.int .i64 c,.int .i64 m.place,qL e0,qL e]))/\bI w w' p x (S m.next).2/\((S m.next).2.alive->e=(S m.next).1):=by
 have ZO:aB m.tk<37:=(ak.mp hc).1;have atW:(aB m.tk:Int)<37:=by omega
 have eB:=h.bN.lt;obtain ⟨t0,v0,ht0⟩:=ek e0;rw [ht0];have H:=hide h;have HO:=hide ho;have HQ:=hide hq;have HC:=hide hc;clear h ho hq hc ht0;go_enter Tryz.func153,Tryz.ntmps153;go_wp2_with fail;refine (gJ (ae H)).mono ?_;rintro r w1 ⟨rfl,S1⟩;obtain ⟨x1,l1,A1⟩:=(PG.start (ae H)).call S1;obtain ⟨W,hW⟩:∃W,W=w1.alloc (.cells #[.int .i64 (aB m.tk),.int .i64 m.place,.string (bn m.tk),.int .i64 (dt m.tk)] 102 (0,0)):=⟨_,rfl⟩;have bL:Below w1.heap.size w1 W:=by rw [hW];exact (ag _ _).alloc (af _) _
 have nS:W.heap[w1.heap.size]?=some (.cells #[.int .i64 (aB m.tk),.int .i64 m.place,.string (bn m.tk),.int .i64 (dt m.tk)] 102 (0,0)):=by rw [hW];exact ai w1 _
 have hbd:Below w1.heap.size w1 W.drew:=aJ bL;have kd:=S1.keeps.size;have ke:dK W.drew:=(dK.keep (ae HO) S1.keeps hp eB).below hbd (by omega);have hcell:W.cell? ⟨8,aB m.tk,none⟩=some (.int .i64 (c:Nat)):=ke _ c (ae HC);have HF:=hide (hF _ p x1 m.next l1 (A1.below hbd).bN ke hp (by rw [A1.depth];exact hQ _ _ _ (ae HQ) Fw));have HA:=hide (A1.below hbd);obtain ⟨g0,g1,g2,g3⟩:=bD nS;have TD:=hide (show W.drew.heap[w1.heap.size]?=_ from nS);have ug:=hide ke;have QR:=A1.lt;have hpW:p<W.drew.heap.size:=(A1.below hbd).lt;have HW:=hide hW;have HPW:=hide hpW;have HP:=hide hp;clear S1 A1 bL ke hbd nS hW hpW;have YH:=hide (show ∀w2,bI W.drew w2 p x1 (S m.next).2->bI w w2 p x (S m.next).2/\w2.cell? ⟨8,aB m.tk,none⟩=some (.int .i64 (c:Nat))/\w2.cell? ⟨w1.heap.size,0,none⟩=some (.int .i64 (aB m.tk))/\w2.cell? ⟨w1.heap.size,1,none⟩=some (.int .i64 m.place) from λw2 S2=>by
  obtain ⟨x2,l2,A2⟩:=(ae HA).call S2;obtain ⟨u0,u1,u2,u3⟩:=bD (mP.block S2 (ae TD) (by omega));exact ⟨A2.step,(dK.keep (ae ug) S2.keeps (ae HP) (ae HPW)) _ c (ae HC),u0,u1⟩)
 unfold iZ;go_wp2_with fail;rw [<- ae HW];go_region_with (with_reducible refine ju (ae HF) ?_;rintro r w2 ⟨e,rfl,S2,he⟩;obtain ⟨t4,v4,ht4⟩:=ek e;obtain ⟨LN,k8,u0,u1⟩:=ae YH w2 S2;have HS:=hide LN;have HEE:=hide he;have YK:=hide ht4;rw [ht4];clear S2 LN he ht4)
 all_goals
  (try go_wp2_with fail)
  go_ret;exact ⟨e,(by rw [ae YK];rfl),ae HS,ae HEE⟩
theorem AP {F:Nat}{S:Mode->Ex×Mode}{Q:Nat->Mode->Prop}(hE:∀(args:Array Value) (w:World),Sem.run Tryz.prog (callFunc F args) w=.ok (.enter F args) w)(hQ:uO Q)(hS:fL S)(hF:vB F S Q){L:List (ByteArray×Nat)}(hL:Fu L)(hn:L.length<=100){w:World}{p:Nat}{x:cB}{m:Mode}{l:List Tok}(h:cO w p x m l)(ho:dK w)(hp:12<=p)(hq:Q x.depth m)(g cap n:Nat)(hk:mY w g (L.map (·.2)))(hg:g<w.heap.size)(QJ:g≠p)(M0:n=(L.map (·.2)).length) :
 Calls Tryz.prog 134 #[.pointer (some ⟨p,0,none⟩),.func (.func F) #[.pointer (some ⟨p,0,none⟩)] #[],.slice (some ⟨g,0,none⟩) n cap] w λr w'=>
 ∃e,r=.returned (qL e)/\bI w w' p x (qk S (L.map (·.1)) m).2/\((qk S (L.map (·.1)) m).2.alive->e=(qk S (L.map (·.1)) m).1):=by
 have HLN:=hide M0;clear M0;have eB:=h.bN.lt;have HF:=hide (hF w p x m l h ho hp hq);have HA:=hide (PG.start h);have HO:=hide ho;have HQ:=hide hq;have HK:=hide hk;clear h ho hq hk;go_enter Tryz.func134,Tryz.ntmps134;go_wp2_with fail;refine (ae HF).mono ?_;rintro r w1 ⟨e1,rfl,S1,YM⟩;obtain ⟨x1,l1,A1⟩:=(ae HA).call S1;have qp:=hide A1;have HE1:=hide YM;clear S1 A1 YM;go_wp2_with fail;go_loopw [7] (λv wr=>∃(x':cB) (m':Mode) (l':List Tok) (e e':Ex) (fuel:Nat),v=qL e/\Hid (PG w wr p x x' m' l')/\m'.len<=fuel/\Hid (l9 S (L.map (·.1)) fuel e' m'=qk S (L.map (·.1)) m)/\Hid (m'.alive->e=e')/\Hid (m'.alive->m.alive)) (λ_ wr=>MD wr p)
 case atStart=>exact ⟨x1,_,l1,e1,_,_,rfl,qp,af _,hide rfl,HE1,hide (λha=>hS.back ha)⟩
 case round=>
  obtain ⟨x',m',l',e,e',fuel,rfl,HG,I7,HC,HE,HB⟩:=hrel;have Rk:=Fv hL (ae HG).bN.xF;have kd:=(ae HG).keeps.size;have LG:=(ae HK).keep (ae HG).keeps QJ hg;have ain:(L.map (·.2)).length<=100:=by simpa using hn
  have HN:=hide (lh (ae HG).bN (L.map (·.2)) g cap LG ain (by omega));rw [<- ae HLN] at HN;have HKI:=hide LG;by_cases hc:aB m'.tk∈L.map (·.2)
  . obtain ⟨o,yW,ke,K6⟩:=Rk.1 hc
    obtain ⟨pJ,hlen⟩:=(ae HG).bN.goes K6;obtain ⟨f,rfl⟩:∃f,fuel=f+1:=⟨fuel - 1,by omega⟩;have o8:=hide (rA (ae HC) yW);have qK:=hide pJ;have hd:decide (aB m'.tk∈L.map (·.2))=true:=by simpa using hc
    have ug:=hide ke;have UE:=hide (ae HG).bN.left;clear Rk hc yW ke K6 pJ LG;rw [hd] at HN;clear hd;go_wp2_with fail;refine (ae HN).mono ?_;rintro r w2 ⟨rfl,bO⟩;have A2:=(ae HG).below bO;have ho':=dK.keep (ae HO) A2.keeps hp eB;have HR:=hide (FU hE hQ hF A2.bN ho' hp (by rw [A2.depth];exact hQ _ _ _ (ae HQ) (λ_=>ae HB (ae qK))) e _ (ae ug));have rE:=hide A2;clear bO A2 ho';go_wp2_with fail;refine (ae HR).mono ?_;rintro r w3 ⟨e3,rfl,S3,he3⟩;obtain ⟨x3,l3,A3⟩:=(ae rE).call S3;have yE:=hide A3;have HE3:=hide he3;have I8:=hide A3.bN.left;have xI:=hS m'.next;clear S3 A3 he3;go_wp2_with fail;go_roundw
    case rel=>
     refine ⟨x3,_,l3,.two o m'.place e e3,_,f,rfl,yE,by omega,o8,hide (λha=>?_),hide (λha=>ae HB (Fw (hS.back ha)))⟩;rw [ae HE (ae qK),ae HE3 ha]
    case measure=>rw [ae I8,ae UE];omega
  . have jZ:(e',m')=qk S (L.map (·.1)) m:=(rB (Rk.2 hc)).symm.trans (ae HC)
    have CA:=hide jZ;have hd:decide (aB m'.tk∈L.map (·.2))=false:=by simpa using hc
    clear Rk hc jZ LG;rw [hd] at HN;clear hd;go_wp2_with fail;refine (ae HN).mono ?_;rintro r w2 ⟨rfl,bO⟩;have rE:=hide ((ae HG).below bO);clear bO;go_wp2_with fail;go_ret;refine ⟨e,rfl,?_,?_⟩
    . rw [<- ae CA];exact (ae rE).step
    . rw [<- ae CA];exact ae HE
theorem wX (w:World)(ks:List Nat)(a:Array Value)(ha:∀j (h:j<ks.length),a[j]?=some (.int .i64 (ks[j]:Nat))):mY (w.alloc (.cells a 100)) w.heap.size ks:=λj hj=>by
 have hb:=ai w (.cells a 100);simp only [World.cell?,hb];simpa using ha j hj
theorem WZ:Fu [(bs [42],18),(bs [47],19),(bs [37],20)]:=λm hw q hq=>by
 simp only [List.mem_cons,List.not_mem_nil,or_false] at hq;rcases hq with rfl|rfl|rfl
 . exact ⟨iW (i:=13) hw rfl (by decide),by decide⟩
 . exact ⟨iW (i:=14) hw rfl (by decide),by decide⟩
 . exact ⟨iW (i:=15) hw rfl (by decide),by decide⟩
theorem FV {sub:Option vI}{Q:Nat->Mode->Prop}(hQ:uO Q)(hl:rC sub)(ht:vB 195 (gN sub) Q):vB 192 (zV sub) Q:=by
 intro w p x m l h ho hp hq;have eB:=h.bN.lt;have iw:Below w.heap.size w (w.alloc (.cells #[.int .i64 18,.int .i64 19,.int .i64 20] 100)):=(ag _ _).alloc (af _) _;have HC:=hide (AP Tryz.call195 hQ (fL.turn hl) ht WZ (by decide) (h.below iw) (ho.below iw (by omega)) hp hq w.heap.size 3 3 (wX w _ _ (λj hj=>match j,hj with|0,_=>rfl|1,_=>rfl|2,_=>rfl)) (by simp) (by omega) rfl);have HA:=hide ((PG.start h).below iw);clear h ho hq iw;go_enter Tryz.func192,Tryz.ntmps192;go_wp2_with fail;refine (ae HC).mono ?_;rintro r w1 ⟨e,rfl,S1,he⟩;obtain ⟨te,ve,jW⟩:=ek e;obtain ⟨x1,l1,A1⟩:=(ae HA).call S1;have HS:=hide A1.step;have HE:=hide he;have yD:=hide jW;rw [jW];clear S1 A1 he jW;go_wp2_with fail;go_ret;exact ⟨e,(by rw [ae yD];first|done|rfl),ae HS,ae HE⟩
theorem TG:Fu [(bs [43],16),(bs [45],17)]:=λm hw q hq=>by
 simp only [List.mem_cons,List.not_mem_nil,or_false] at hq;rcases hq with rfl|rfl
 . exact ⟨iW (i:=11) hw rfl (by decide),by decide⟩
 . exact ⟨iW (i:=12) hw rfl (by decide),by decide⟩
theorem BX {sub:Option vI}{Q:Nat->Mode->Prop}(hQ:uO Q)(hl:rC sub)(ht:vB 192 (zV sub) Q):vB 184 (iB sub) Q:=by
 intro w p x m l h ho hp hq;have eB:=h.bN.lt;have iw:Below w.heap.size w (w.alloc (.cells #[.int .i64 16,.int .i64 17] 100)):=(ag _ _).alloc (af _) _;have HC:=hide (AP Tryz.call192 hQ (fL.part hl) ht TG (by decide) (h.below iw) (ho.below iw (by omega)) hp hq w.heap.size 2 2 (wX w _ _ (λj hj=>match j,hj with|0,_=>rfl|1,_=>rfl)) (by simp) (by omega) rfl);have HA:=hide ((PG.start h).below iw);clear h ho hq iw;go_enter Tryz.func184,Tryz.ntmps184;go_wp2_with fail;refine (ae HC).mono ?_;rintro r w1 ⟨e,rfl,S1,he⟩;obtain ⟨te,ve,jW⟩:=ek e;obtain ⟨x1,l1,A1⟩:=(ae HA).call S1;have HS:=hide A1.step;have HE:=hide he;have yD:=hide jW;rw [jW];clear S1 A1 he jW;go_wp2_with fail;go_ret;exact ⟨e,(by rw [ae yD];first|done|rfl),ae HS,ae HE⟩
theorem Xa:Fu [(bs [97,110,100],35)]:=λm hw q hq=>by
 simp only [List.mem_cons,List.not_mem_nil,or_false] at hq;subst hq
 . exact ⟨eu (i:=14) hw rfl (by decide),by decide⟩
theorem FW {sub:Option vI}{Q:Nat->Mode->Prop}(hQ:uO Q)(hl:rC sub)(ht:vB 154 (gO sub) Q):vB 135 (zW sub) Q:=by
 intro w p x m l h ho hp hq;have eB:=h.bN.lt;have iw:Below w.heap.size w (w.alloc (.cells #[.int .i64 35] 100)):=(ag _ _).alloc (af _) _;have HC:=hide (AP Tryz.call154 hQ (fL.J6 hl) ht Xa (by decide) (h.below iw) (ho.below iw (by omega)) hp hq w.heap.size 1 1 (wX w _ _ (λj hj=>match j,hj with|0,_=>rfl)) (by simp) (by omega) rfl);have HA:=hide ((PG.start h).below iw);clear h ho hq iw;go_enter Tryz.func135,Tryz.ntmps135;go_wp2_with fail;refine (ae HC).mono ?_;rintro r w1 ⟨e,rfl,S1,he⟩;obtain ⟨te,ve,jW⟩:=ek e;obtain ⟨x1,l1,A1⟩:=(ae HA).call S1;have HS:=hide A1.step;have HE:=hide he;have yD:=hide jW;rw [jW];clear S1 A1 he jW;go_wp2_with fail;go_ret;exact ⟨e,(by rw [ae yD];first|done|rfl),ae HS,ae HE⟩
theorem PS:Fu [(bs [111,114],36)]:=λm hw q hq=>by
 simp only [List.mem_cons,List.not_mem_nil,or_false] at hq;subst hq
 . exact ⟨eu (i:=15) hw rfl (by decide),by decide⟩
theorem zv {sub:Option vI}{Q:Nat->Mode->Prop}(hQ:uO Q)(hl:rC sub)(ht:vB 135 (zW sub) Q):vB 109 (j9 sub) Q:=by
 intro w p x m l h ho hp hq;have eB:=h.bN.lt;have iw:Below w.heap.size w (w.alloc (.cells #[.int .i64 36] 100)):=(ag _ _).alloc (af _) _;have HC:=hide (AP Tryz.call135 hQ (fL.both hl) ht PS (by decide) (h.below iw) (ho.below iw (by omega)) hp hq w.heap.size 1 1 (wX w _ _ (λj hj=>match j,hj with|0,_=>rfl)) (by simp) (by omega) rfl);have HA:=hide ((PG.start h).below iw);clear h ho hq iw;go_enter Tryz.func109,Tryz.ntmps109;go_wp2_with fail;refine (ae HC).mono ?_;rintro r w1 ⟨e,rfl,S1,he⟩;obtain ⟨te,ve,jW⟩:=ek e;obtain ⟨x1,l1,A1⟩:=(ae HA).call S1;have HS:=hide A1.step;have HE:=hide he;have yD:=hide jW;rw [jW];clear S1 A1 he jW;go_wp2_with fail;go_ret;exact ⟨e,(by rw [ae yD];first|done|rfl),ae HS,ae HE⟩
theorem Xb:Fu [(bs [61],8),(bs [60,62],5),(bs [60],9),(bs [60,61],6),(bs [62],10),(bs [62,61],7)]:=λm hw q hq=>by
 simp only [List.mem_cons,List.not_mem_nil,or_false] at hq;rcases hq with rfl|rfl|rfl|rfl|rfl|rfl
 . exact ⟨iW (i:=3) hw rfl (by decide),by decide⟩
 . exact ⟨iW (i:=0) hw rfl (by decide),by decide⟩
 . exact ⟨iW (i:=4) hw rfl (by decide),by decide⟩
 . exact ⟨iW (i:=1) hw rfl (by decide),by decide⟩
 . exact ⟨iW (i:=5) hw rfl (by decide),by decide⟩
 . exact ⟨iW (i:=2) hw rfl (by decide),by decide⟩
theorem TH {w:World}{p:Nat}{x:cB}{m:Mode}{l:List Tok}(h:cO w p x m l):(if aB m.tk=39 then m.next else m.wrong 2)=m.take q6:=uM (eu (i:=18) h.xF rfl (by decide))
theorem FX {sub:Option vI}{Q:Nat->Mode->Prop}(hQ:uO Q)(hl:rC sub)(ht:vB 184 (iB sub) Q):vB 169 (mo sub) Q:=by
 intro w p x m l h ho hp hq;have eB:=h.bN.lt;have HF:=hide (ht w p x m l h ho hp hq);have HA:=hide (PG.start h);have HO:=hide ho;have HQ:=hide hq;have HLK:=hide (λha=>(fL.total hl).back (m:=m) ha);clear h ho hq;go_enter Tryz.func169,Tryz.ntmps169;go_wp2_with fail;refine (ae HF).mono ?_;rintro r w1 ⟨e1,rfl,S1,YM⟩;obtain ⟨x1,l1,A1⟩:=(ae HA).call S1;have oq:Below w1.heap.size w1 (w1.alloc (.cells #[.int .i64 8,.int .i64 5,.int .i64 9,.int .i64 6,.int .i64 10,.int .i64 7] 100)):=(ag _ _).alloc (af _) _;have A2:=A1.below oq;have Rk:=Fv Xb A1.bN.xF;have HN:=hide (lh A2.bN [8,5,9,6,10,7] w1.heap.size 6 (wX w1 [8,5,9,6,10,7] _ (λj hj=>match j,hj with|0,_=>rfl|1,_=>rfl|2,_=>rfl|3,_=>rfl|4,_=>rfl|5,_=>rfl)) (by decide) (by simp));have rE:=hide A2;have HE1:=hide YM;obtain ⟨te,ve,jW⟩:=ek e1;obtain ⟨M,hM⟩:∃M,M=iB sub m:=⟨_,rfl⟩;have HT:Hid (mo sub m=match jV.find? (λo=>M.2.is o) with
  |some o=>(.two o M.2.place M.1 (iB sub M.2.next).1,(iB sub M.2.next).2)
  |none=>if M.2.is kIs then (.lZ (M.2.next.is wq) M.2.place M.1,(if M.2.next.is wq then M.2.next.next else M.2.next).take q6) else M):=hide (by rw [hM];rfl)
 rw [<- hM] at rE HE1 HN Rk HLK;clear S1 A1 YM A2 oq hM;by_cases hc:aB M.2.tk∈[8,5,9,6,10,7]
 . obtain ⟨o,yW,ke,K6⟩:=Rk.1 hc
   have aip:jV.find? (λo=>M.2.is o)=some o:=yW;have ze:=ae HT;rw [aip] at ze;have HTS:=hide ze;have hd:decide (aB M.2.tk∈[8,5,9,6,10,7])=true:=by simpa using hc
   rw [hd] at HN;obtain ⟨pJ,-⟩:=(ae rE).bN.goes K6;have qK:=hide pJ;have ug:=hide ke;have yD:=hide jW;clear Rk hc yW aip ke K6 ze hd pJ jW HT;go_wp2_with fail;refine (ae HN).mono ?_;rintro r w3 ⟨rfl,eD⟩;have A3:=(ae rE).below eD;have ho':=dK.keep (ae HO) A3.keeps hp eB;have HR:=hide (FU Tryz.call184 hQ ht A3.bN ho' hp (by rw [A3.depth];exact hQ _ _ _ (ae HQ) (λ_=>ae HLK (ae qK))) e1 _ (ae ug));have yE:=hide A3;clear eD A3 ho';go_wp2_with fail;refine (ae HR).mono ?_;rintro r w4 ⟨e4,rfl,S4,he4⟩;obtain ⟨x4,l4,A4⟩:=(ae yE).call S4;have HS:=hide A4.step;have HE4:=hide he4;clear S4 A4 he4;go_wp2_with fail;go_ret;refine ⟨.two o M.2.place e1 e4,rfl,?_,?_⟩
   . rw [ae HTS];exact ae HS
   . rw [ae HTS]
     intro ha;show Ex.two o M.2.place e1 e4=Ex.two o M.2.place M.1 (iB sub M.2.next).1;rw [ae HE4 ha,ae HE1 (ae qK)]
 . have YL:jV.find? (λo=>M.2.is o)=none:=Rk.2 hc
   have ze:=ae HT;rw [YL] at ze;have hd:decide (aB M.2.tk∈[8,5,9,6,10,7])=false:=by simpa using hc
   rw [hd] at HN;have hii:M.2.is kIs=decide (aB M.2.tk=38):=eu (i:=17) (ae rE).bN.xF rfl (by decide);clear Rk hc YL hd HT;by_cases h38:aB M.2.tk=38
   . have hi:M.2.is kIs=true:=by rw [hii];simpa using h38
     have Xc:mo sub m=(.lZ (M.2.next.is wq) M.2.place M.1,(if M.2.next.is wq then M.2.next.next else M.2.next).take q6):=by rw [ze];simp only [hi,if_true]
     have HTS:=hide Xc;have qK:=hide ((ae rE).bN.goes hi).1;have H38:=hide h38;have yD:=hide jW;clear ze Xc hi hii h38 jW;go_wp2_with fail;refine (ae HN).mono ?_;rintro r w3 ⟨rfl,eD⟩;have yE:=hide ((ae rE).below eD);clear eD;go_wp2_with fail;refine (ji (ae yE).bN 38).mono ?_;rintro r w4 ⟨rfl,S4⟩;rw [aH (ae H38)] at S4;obtain ⟨x4,l4,A4⟩:=(ae yE).call S4;have CO:=hide A4;have hd:decide (aB M.2.tk=38)=true:=by simpa using ae H38
     have UL:M.2.next.is wq=decide (aB M.2.next.tk=37):=eu (i:=16) A4.bN.xF rfl (by decide);have ZB:=hide UL;rw [hd];clear S4 A4 hd UL;obtain ⟨b,hb⟩:∃b,b=decide (aB M.2.next.tk=37):=⟨_,rfl⟩;obtain ⟨M3,hM3⟩:∃M3,M3=(if aB M.2.next.tk=37 then M.2.next.next else M.2.next):=⟨_,rfl⟩;have hT:=ji (ae CO).bN 37;rw [<- hb,<- hM3] at hT;have HT:=hide hT;have DN:M3=(if M.2.next.is wq then M.2.next.next else M.2.next):=by
      rw [hM3,ae ZB];by_cases h37:aB M.2.next.tk=37
      . rw [aH h37,bu h37];rfl
      . rw [aA h37,aI h37];rfl
     have TI:=hide DN;have HB:=hide (show b=M.2.next.is wq from by rw [hb,ae ZB]);clear hT hb hM3 DN;go_wp2_with fail;refine (ae HT).mono ?_;rintro r w5 ⟨rfl,S5⟩;obtain ⟨x5,l5,A5⟩:=(ae CO).call S5;have He:=hide A5;clear S5 A5;go_wp2_with fail;refine (gK (ae He).bN 39).mono ?_;rintro r w6 ⟨rfl,S6⟩;rw [TH (ae He).bN] at S6;obtain ⟨x6,l6,A6⟩:=(ae He).call S6;have HS:=hide A6.step;clear S6 A6;unfold iZ;rw [ae yD];go_wp2_with fail;go_ret;refine ⟨.lZ (M.2.next.is wq) M.2.place e1,?_,?_,?_⟩
     . rw [<- ae HB];simp only [qL,ae yD];rfl
     . rw [ae HTS,<- ae TI];exact ae HS
     . rw [ae HTS]
       intro _;rw [ae HE1 (ae qK)]
   . have hi:M.2.is kIs=false:=by rw [hii];simpa using h38
     have Xc:mo sub m=M:=by rw [ze];simp only [hi];rfl
     have HTS:=hide Xc;have H38:=hide h38;have yD:=hide jW;clear ze Xc hi hii h38 jW;go_wp2_with fail;refine (ae HN).mono ?_;rintro r w3 ⟨rfl,eD⟩;have yE:=hide ((ae rE).below eD);clear eD;go_wp2_with fail;refine (ji (ae yE).bN 38).mono ?_;rintro r w4 ⟨rfl,S4⟩;rw [aA (ae H38)] at S4;obtain ⟨x4,l4,A4⟩:=(ae yE).call S4;have HS:=hide A4.step;have hd:decide (aB M.2.tk=38)=false:=by simpa using ae H38
     rw [hd,ae yD];clear S4 A4 hd;go_wp2_with fail;go_ret;refine ⟨e1,(by rw [ae yD];first|done|rfl),?_,?_⟩
     . rw [ae HTS];exact ae HS
     . rw [ae HTS];exact ae HE1
def Qd (d:Nat):Nat->Mode->Prop:=λdep m=>m.alive->dep+d=8
def Qx:Nat->Mode->Prop:=λ_ m=>¬m.alive
theorem yF (d:Nat):uO (Qd d):=λ_ _ _ h k ha=>h (k ha)
theorem M1:uO Qx:=λ_ _ _ h k ha=>h (k ha)
theorem KI {m:Mode}(h:¬m.alive)(s:ByteArray):m.is s=false:=by
 cases m with
 |live t ts=>exact absurd trivial h
 |dead e b=>rfl
theorem Hx:rC none:=trivial
theorem FY:vB 195 (gN none) Qx/\vB 154 (gO none) Qx/\vB 109 (j9 none) Qx:=by
 have jM:vB 196 (gM none) Qx:=KH (λw p x m l _ _ _ hq ho=>by rw [KI hq] at ho;cases ho);have htu:=FP jM (λw p x m l _ _ _ hq ho=>by rw [KI hq] at ho;cases ho);have jW:=FX M1 Hx (BX M1 Hx (FV M1 Hx htu));have hde:=FQ jW (λw p x m l _ _ _ hq ho=>by rw [KI hq] at ho;cases ho);exact ⟨htu,hde,zv M1 Hx (FW M1 Hx hde)⟩
theorem tQ {m:Mode}(h:m.alive)(e:Nat):m.wrong e=.dead e m.place:=by
 cases m with
 |live t ts=>rfl
 |dead a b=>exact absurd h (λh=>h)
theorem PT:vB 195 (gN none) (Qd 0)/\vB 154 (gO none) (Qd 0)/\vB 109 (j9 none) (Qd 0):=by
 have jM:vB 196 (gM none) (Qd 0):=KH (λw p x m l h ho hp hq nx=>by
  have pJ:=(h.goes nx).1;have h8:x.depth=8:=hq pJ;have M7:mB x.depth m=.dead 3 m.place:=by unfold mB;rw [aH h8,tQ pJ]
  have hS:gM none m=(.junk,.dead 3 m.place):=by unfold gM;rw [aH nx,tQ pJ]
  refine (FT FY.2.2 h ho hp (by omega) (by rw [M7];exact λh=>h)).mono ?_;rintro r w' ⟨e,rfl,S,-⟩;rw [M7] at S;rw [hS];exact ⟨e,rfl,S,λh=>absurd h (λh=>h)⟩)
 have htu:=FP jM (λw p x m l h ho hp hq nx=>by
  have pJ:=(h.goes nx).1;have h8:x.depth=8:=hq pJ;have M7:mB x.depth m=.dead 3 m.place:=by unfold mB;rw [aH h8,tQ pJ]
  have hS:gN none m=(.junk,.dead 3 m.place):=by unfold gN;rw [aH nx,tQ pJ]
  refine (xL Tryz.call195 FY.1 h ho hp (by omega) (by rw [M7];exact λh=>h) 13).mono ?_;rintro r w' ⟨e,rfl,S,-⟩;rw [M7] at S;rw [hS];exact ⟨.neg m.place e,rfl,S,λh=>absurd h (λh=>h)⟩)
 have jW:=FX (yF 0) Hx (BX (yF 0) Hx (FV (yF 0) Hx htu));have hde:=FQ jW (λw p x m l h ho hp hq nx=>by
  have pJ:=(h.goes nx).1;have h8:x.depth=8:=hq pJ;have M7:mB x.depth m=.dead 3 m.place:=by unfold mB;rw [aH h8,tQ pJ]
  have hS:gO none m=(.junk,.dead 3 m.place):=by unfold gO;rw [aH nx,tQ pJ]
  refine (xL Tryz.call154 FY.2.1 h ho hp (by omega) (by rw [M7];exact λh=>h) 14).mono ?_;rintro r w' ⟨e,rfl,S,-⟩;rw [M7] at S;rw [hS];exact ⟨.not m.place e,rfl,S,λh=>absurd h (λh=>h)⟩)
 exact ⟨htu,hde,zv (yF 0) Hx (FW (yF 0) Hx hde)⟩
theorem PU (d:Nat)(ih:vB 195 (gN (lvl d)) (Qd d)/\vB 154 (gO (lvl d)) (Qd d)/\vB 109 (j9 (lvl d)) (Qd d)) :
 vB 195 (gN (lvl (d+1))) (Qd (d+1))/\vB 154 (gO (lvl (d+1))) (Qd (d+1))/\vB 109 (j9 (lvl (d+1))) (Qd (d+1)):=by
 have hlv:=BO (d+1);have jM:vB 196 (gM (lvl (d+1))) (Qd (d+1)):=KH (λw p x m l h ho hp hq nx=>by
  have pJ:=(h.goes nx).1;have h8:x.depth+(d+1)=8:=hq pJ;have M7:mB x.depth m=m.next:=by unfold mB;rw [aA (by omega)]
  have hS:gM (lvl (d+1)) m=((j9 (lvl d) m.next).1,(j9 (lvl d) m.next).2.take eG):=by unfold gM;rw [aH nx];rfl
  refine (FT ih.2.2 h ho hp (by omega) (by rw [M7];exact λ_=>by omega)).mono ?_;rintro r w' ⟨e,rfl,S,he⟩;rw [M7] at S he;rw [hS];exact ⟨e,rfl,S,λha=>he (kC ha)⟩)
 have htu:=FP jM (λw p x m l h ho hp hq nx=>by
  have pJ:=(h.goes nx).1;have h8:x.depth+(d+1)=8:=hq pJ;have M7:mB x.depth m=m.next:=by unfold mB;rw [aA (by omega)]
  have hS:gN (lvl (d+1)) m=(.neg m.place (gN (lvl d) m.next).1,(gN (lvl d) m.next).2):=by unfold gN;rw [aH nx];rfl
  refine (xL Tryz.call195 ih.1 h ho hp (by omega) (by rw [M7];exact λ_=>by omega) 13).mono ?_;rintro r w' ⟨e,rfl,S,he⟩;rw [M7] at S he;rw [hS];exact ⟨.neg m.place e,rfl,S,λha=>by rw [he ha]⟩)
 have jW:=FX (yF (d+1)) hlv (BX (yF (d+1)) hlv (FV (yF (d+1)) hlv htu));have hde:=FQ jW (λw p x m l h ho hp hq nx=>by
  have pJ:=(h.goes nx).1;have h8:x.depth+(d+1)=8:=hq pJ;have M7:mB x.depth m=m.next:=by unfold mB;rw [aA (by omega)]
  have hS:gO (lvl (d+1)) m=(.not m.place (gO (lvl d) m.next).1,(gO (lvl d) m.next).2):=by unfold gO;rw [aH nx];rfl
  refine (xL Tryz.call154 ih.2.1 h ho hp (by omega) (by rw [M7];exact λ_=>by omega) 14).mono ?_;rintro r w' ⟨e,rfl,S,he⟩;rw [M7] at S he;rw [hS];exact ⟨.not m.place e,rfl,S,λha=>by rw [he ha]⟩)
 exact ⟨htu,hde,zv (yF (d+1)) hlv (FW (yF (d+1)) hlv hde)⟩
theorem levels:∀d,vB 195 (gN (lvl d)) (Qd d)/\vB 154 (gO (lvl d)) (Qd d)/\vB 109 (j9 (lvl d)) (Qd d)
 |0=>PT
 |d+1=>PU d (levels d)
theorem TJ:vB 109 (j9 (lvl 8)) (Qd 8):=(levels 8).2.2
theorem CP (a b:Int)(s:ByteArray)(d:Int)(w:World):(Instr.field 102 (.agg #[.int .i64 a,.int .i64 b,.string s,.int .i64 d]) 1).run Tryz.prog w=.ok (.int .i64 b) w:=by kernel_rfl
theorem zw {w:World}{p:Nat}{x:cB}{m:Mode}{l:List Tok}(h:cO w p x m l)(ho:dK w)(hp:12<=p)(hd:x.depth=0):Calls Tryz.prog 80 #[.pointer (some ⟨p,0,none⟩)] w λr w'=>
 ∃e,r=.returned (.agg #[.int .i64 m.place,qL e])/\bI w w' p x (nR m).2/\((nR m).2.alive->(e,m.place)=(nR m).1):=by
 have HA:=hide (mP.start h (.cells #[.int .i64 0,.nilIface] 180));have eB:=h.bN.lt;have HO:=hide (ho.below (show Below w.heap.size w (w.alloc (.cells #[.int .i64 0,.nilIface] 180)) from (ag _ _).alloc (af _) _) (by omega));clear h ho;go_enter Tryz.func80,Tryz.ntmps80;go_wp2_with fail;refine (uL (ae HA).bN).mono ?_;rintro r w1 ⟨rfl,bL⟩;have A1:=(ae HA).below bL;have Tf:w1.heap[w.heap.size]?=some (.cells #[.int .i64 0,.nilIface] 180 (0,0)):=(bL.block w.heap.size (by simp)).trans (ai w _);have yW:=(ae HO).below bL (by simp;omega);have HF:=hide (TJ w1 p x m l A1.bN yW hp (λ_=>by omega));have qp:=hide A1;have aed:=hide Tf;have Rk:∀w,(Instr.field 102 (.agg #[.int .i64 (aB m.tk),.int .i64 m.place,.string (bn m.tk),.int .i64 (dt m.tk)]) 1).run Tryz.prog w=.ok (.int .i64 m.place) w:=λw=>CP _ _ _ _ w;clear bL A1 Tf yW;unfold iZ;go_wp2_with fail;refine (ae HF).mono ?_;rintro r w2 ⟨e,rfl,S2,he⟩;obtain ⟨te,ve,jW⟩:=ek e;obtain ⟨x2,l2,A2⟩:=(ae qp).call S2;have fN:=mP.block S2 (ae aed) (by omega);have q0:w2.cell? ⟨w.heap.size,0,none⟩=some (.int .i64 0):=by simp [World.cell?,fN]
 have q1:w2.cell? ⟨w.heap.size,1,none⟩=some .nilIface:=by simp [World.cell?,fN]
 have z0:=aK fN 0;have z1:=aK fN 1;have HS:=hide (λa b=>((A2.set 0 a).set 1 b).step);have HE:=hide he;have yD:=hide jW;rw [jW];clear S2 A2 he jW fN;go_wp2_with fail
 (try simp only [Exit.inBlock,Exit.then])
 refine ay (v:=.agg #[.int .i64 m.place,.iface te ve]) (by simp [results,Tryz.results80,go_sem,q0,q1];try rfl) rfl ?_;refine ⟨e,(by rw [ae yD];first|done|rfl),ae HS _ _,λha=>?_⟩;rw [ae HE ha];rfl
def KJ (F p:Nat){α:Type}(S:Mode->α×Mode):Prop:=Enters F/\(∀m,(S m).2.len<=m.len)/\∀w x m l,cO w p x m l->dK w->x.depth=0->
 Calls Tryz.prog F #[.pointer (some ⟨p,0,none⟩)] w λr w'=>∃c:Nm,r=.returned (.agg #[.string c.1,.int .i64 c.2])/\bI w w' p x (S m).2
theorem AQ {α:Type}{F:Nat}{S:Mode->α×Mode}{w:World}{p:Nat}{x:cB}{m:Mode}{l:List Tok}(hF:KJ F p S)(h:cO w p x m l)(ho:dK w)(hp:12<=p)(hd:x.depth=0):Calls Tryz.prog 108 #[.pointer (some ⟨p,0,none⟩),.func (.func F) #[.pointer (some ⟨p,0,none⟩)] #[]] w λr w'=>
 ∃v,r=.returned v/\bI w w' p x (cC S m).2:=by
 obtain ⟨hE,hS,hC⟩:=hF;obtain ⟨i0,hi,jS,jD,jv⟩:=uK Tryz.I6;have eB:=h.bN.lt;have hm:=h.Pu;have Rb:=hide (hC w x m l h ho hd);have HC:=hide hC;have HO:=hide ho;have HS:=hide hS;unfold Enters at hE;clear h hC ho hS;go_enter Tryz.func108,Tryz.ntmps108;go_wp2_with fail;refine (ae Rb).mono ?_;rintro r w1 ⟨c0,rfl,S1⟩;have Ip:=ae HS m;obtain ⟨x1,l1,h1,sM,pj⟩:=S1.ex;have bO:Below w1.heap.size w1 (w1.alloc (.cells #[.string c0.1,.int .i64 c0.2] 106)):=(ag _ _).alloc (af _) _;have Le:=S1.keeps.size;have xG:fP w (w1.alloc (.cells #[.string c0.1,.int .i64 c0.2] 106)) p x x1 m (S m).2 l1 106 2 (.slice (some ⟨w1.heap.size,0,none⟩) 1 1) 1 (jF [c0]):=
  ⟨h1.below bO,sM,pj,S1.keeps.dz (aQ.cQ bO),⟨by simp [jF,vA],.inr ⟨w1.heap.size,1,#[.string c0.1,.int .i64 c0.2],rfl,Le,ai w1 _,by simp,by decide,by simp,by simp [jF,vA]⟩⟩,by omega,eB,λg hg e=>by
   simp [Value.ownBlock] at hg;have:=(h1.own.lt g e).2;omega⟩
 have Rp:=hide xG;clear S1 h1 sM pj bO xG Rb;go_wp2_with fail;go_loopw [5] (λv wr=>∃(x':cB) (m':Mode) (l':List Tok) (ls:List Nm) (lp:List α) (fuel:Nat),Hid (fP w wr p x x' m m' l' 106 2 v ls.length (jF ls))/\m'.len<=fuel/\Hid (fm S fuel lp m'=cC S m)) (λv _=>2000 - lenOf v)
 case atStart=>exact ⟨x1,_,l1,[c0],[(S m).1],_,Rp,af _,hide rfl⟩
 case round=>
  obtain ⟨x',m',l',ls,lp,fuel,HL,I7,HM⟩:=hrel;have sS:=uN (ae HL).bN;by_cases hc:aB m'.tk=13
  . have ic:m'.is kj=true:=by rw [sS];simpa using hc
    obtain ⟨pJ,hlen⟩:=(ae HL).bN.goes ic;obtain ⟨f,rfl⟩:∃f,fuel=f+1:=⟨fuel - 1,by omega⟩;have o8:=hide (lS (ae HM) ic);have HT:=hide (show Calls Tryz.prog 81 #[.pointer (some ⟨p,0,none⟩),.int .i64 13] wr λr w'=>r=.returned (.bool true)/\bI wr w' p x' m'.next from by
     refine (ji (ae HL).bN 13).mono ?_;rintro r w' ⟨rfl,S⟩;rw [aH hc] at S;exact ⟨by simp [hc],S⟩)
    clear hc ic pJ sS;go_wp2_with fail;refine (ae HT).mono ?_;rintro r w2 ⟨rfl,S2⟩;obtain ⟨x2,l2,L2⟩:=(ae HL).call S2 (by omega);have um:=hide (ae HC _ _ _ _ L2.bN (dK.keep (ae HO) L2.keeps hp eB) (by rw [L2.depth];exact hd));have r6:=hide L2;clear S2 L2;go_wp2_with fail;refine (ae um).mono ?_;rintro r w3 ⟨c3,rfl,S3⟩;have Mz:=ae HS m'.next;have DW:=(ae HL).few;obtain ⟨x3,l3,L3⟩:=(ae r6).call S3 Mz;obtain ⟨va,vc,hv⟩:=kI L3.own;subst hv;have I8:=hide L3;have IE:=hide (L3.own.alloc (.cells #[.string c3.1,.int .i64 c3.2] 106));have Gv:=hide (World.news_of_block (ai w3 (.cells #[.string c3.1,.int .i64 c3.2] 106)));have tq:=L3.keeps.size;clear S3 L3;go_wp2_with (at_builtin;refine cA _ rfl _ _ 175 rfl w.heap.size 106 i0 _ 2 24 Tryz.underlying175 hi jS jD jv rfl (by decide) _ _ _ rfl (ae IE) ⟨w3.heap.size,0,none⟩ 1 1 (vA c3) rfl rfl (ae Gv) (Mx _) (by decide) ?c3 ?c4 ?c5 ?_)
    case c3=>unfold maxLen;omega
    case c4=>omega
    case c5=>simp;omega
    intro g cap w5 br bE bW;have Wv:=(ae I8).app br bE (by simpa using bW) (by omega);have UZ:=hide (show fP w w5 p x x3 m (S m'.next).2 l3 106 2 (.slice (some ⟨g,0,none⟩) (ls.length+1) cap) (ls++[c3]).length (jF (ls++[c3])) from by rw [au,CF];exact Wv);clear br bE bW Wv;go_wp2_with fail;go_roundw
    case rel=>exact ⟨x3,_,l3,ls++[c3],_,f,UZ,by omega,o8⟩
    case measure=>exact rZ rfl rfl (by omega)
  . have ic:m'.is kj=false:=by rw [sS];simpa using hc
    have jZ:(lp,m')=cC S m:=(lT ic).symm.trans (ae HM);have HF:=hide jZ;have HT:=hide (show Calls Tryz.prog 81 #[.pointer (some ⟨p,0,none⟩),.int .i64 13] wr λr w'=>r=.returned (.bool false)/\bI wr w' p x' m' from by
     refine (ji (ae HL).bN 13).mono ?_;rintro r w' ⟨rfl,S⟩;rw [aA hc] at S;exact ⟨by simp [hc],S⟩)
    clear hc ic sS jZ;go_wp2_with fail;refine (ae HT).mono ?_;rintro r w2 ⟨rfl,S2⟩;obtain ⟨x2,l2,L2⟩:=(ae HL).call S2 (af _);have r6:=hide L2;clear S2 L2;go_wp2_with fail;go_ret;refine ⟨_,rfl,?_⟩;rw [<- ae HF];exact (ae r6).step
theorem KL {w:World}{p:Nat}{x:cB}{m:Mode}{l:List Tok}(h:cO w p x m l):(if aB m.tk=8 then m.next else m.wrong 2)=m.take vJ:=uM (iW (i:=3) h.xF rfl (by decide))
theorem KM {w:World}{p:Nat}{x:cB}{m:Mode}{l:List Tok}(h:cO w p x m l):(if aB m.tk=25 then m.next else m.wrong 2)=m.take wy:=uM (eu (i:=4) h.xF rfl (by decide))
theorem hY {w1:World}{r:Nat}{a b:Value}{t:TypeId}(h:w1.heap[r]?=some (.cells #[a,b] t (0,0))):w1.cell? ⟨r,0,none⟩=some a/\w1.cell? ⟨r,1,none⟩=some b:=by
 simp [World.cell?,h]
theorem aaE {m:Mode}(hw:m.tk.wf):m.is QV=decide (aB m.tk=28):=eu (i:=7) hw rfl (by decide)
theorem CQ (m:Mode):(eL m).2.len<=m.len:=aw (ME _) (aw (ij _ _) (cP m))
theorem AU (m:Mode):(dC m).2.len<=m.len:=by
 unfold dC;simp only;split
 . exact aw bG (cP m)
 . exact cP m
structure Fr (w w1:World)(p:Nat)(x x1:cB)(m1:Mode)(l1:List Tok)(bs:List (Nat×Obj)):Prop where
 at_:mP w w1 p x x1 m1 l1
 dV:∀q∈bs,w1.heap[q.1]?=some q.2/\q.1≠p
section
variable {w w1 w2:World} {p:Nat} {x x1:cB} {m m1 m2:Mode} {l l1:List Tok} {bs:List (Nat×Obj)}
theorem Fr.start (h:cO w p x m l)(o:Obj):Fr w (w.alloc o) p x x m l [(w.heap.size,o)]:=⟨mP.start h o,λq hq=>by
 rw [dy] at hq;subst hq;exact ⟨ai w o,Nat.ne_of_gt h.bN.lt⟩⟩
theorem Fr.call (F:Fr w w1 p x x1 m1 l1 bs)(S:bI w1 w2 p x1 m2):∃x2 l2,Fr w w2 p x x2 m2 l2 bs:=by
 obtain ⟨x2,l2,A⟩:=F.at_.call S;exact ⟨x2,l2,A,λq hq=>⟨mP.block S (F.dV q hq).1 (F.dV q hq).2,(F.dV q hq).2⟩⟩
theorem Fr.below (F:Fr w w1 p x x1 m1 l1 bs)(hb:Below w1.heap.size w1 w2):Fr w w2 p x x1 m1 l1 bs:=
 ⟨F.at_.below hb,λq hq=>⟨(hb.block q.1 (fK (F.dV q hq).1)).trans (F.dV q hq).1,(F.dV q hq).2⟩⟩
theorem Fr.new (F:Fr w w1 p x x1 m1 l1 bs)(o:Obj):Fr w (w1.alloc o) p x x1 m1 l1 ((w1.heap.size,o)::bs):=
 ⟨F.at_.below ((ag _ _).alloc (af _) o),λq hq=>by
  rcases bY.mp hq with rfl|hq
  . exact ⟨ai w1 o,Nat.ne_of_gt F.at_.bN.bN.lt⟩
  . exact ((F.below ((ag _ _).alloc (af _) o)).dV q hq)⟩
theorem Fr.drew (F:Fr w w1 p x x1 m1 l1 bs):Fr w w1.drew p x x1 m1 l1 bs:=F.below (aJ (ag _ _))
end
abbrev nmO (m:Mode):Obj:=.cells #[.string (bn m.tk),.int .i64 m.place] 106
abbrev nmZ:Obj:=.cells #[.string ⟨#[]⟩,.int .i64 0] 106
theorem Fr.ends {w w1 w3:World}{p:Nat}{x x3:cB}{m m3:Mode}{l3:List Tok}(F:Fr w w3 p x x3 m3 l3 [(w1.heap.size,nmO m),(w.heap.size,nmZ)]) :
 (w3.cell? ⟨w1.heap.size,0,none⟩=some (.string (bn m.tk))/\w3.cell? ⟨w1.heap.size,1,none⟩=some (.int .i64 m.place))/\(w3.cell? ⟨w.heap.size,0,none⟩=some (.string ⟨#[]⟩)/\w3.cell? ⟨w.heap.size,1,none⟩=some (.int .i64 0))/\(∀i,w3.frozen? ⟨w.heap.size,i,none⟩=false)/\∀a b,bI w ((w3.setCell ⟨w.heap.size,0,none⟩ a).setCell ⟨w.heap.size,1,none⟩ b) p x m3:=
 ⟨hY (F.dV (w1.heap.size,nmO m) (by simp)).1,hY (F.dV (w.heap.size,nmZ) (by simp)).1,λi=>aK (F.dV (w.heap.size,nmZ) (by simp)).1 i,λa b=>((F.at_.set 0 a).set 1 b).step⟩
theorem TK {w:World}{p:Nat}{x:cB}{m:Mode}{l:List Tok}(hp:12<=p)(h:cO w p x m l)(ho:dK w)(hd:x.depth=0):Calls Tryz.prog 110 #[.pointer (some ⟨p,0,none⟩)] w λr w'=>
 ∃c:Nm,r=.returned (.agg #[.string c.1,.int .i64 c.2])/\bI w w' p x (eL m).2:=by
 have F:=hide (Fr.start h nmZ);have HO:=hide ho;have eB:=h.bN.lt;clear h ho;go_enter Tryz.func110,Tryz.ntmps110;go_wp2_with fail;refine (jk (ae F).at_.bN).mono ?_;rintro r w1 ⟨rfl,S⟩;obtain ⟨x1,l1,G⟩:=(ae F).call S;have bL:=G.at_.big;have F1:=hide (G.new (nmO m));clear S G;go_wp2_with fail;refine (gK (ae F1).at_.bN 8).mono ?_;rintro r w2 ⟨rfl,S⟩;rw [KL (ae F1).at_.bN] at S;obtain ⟨x2,l2,G⟩:=(ae F1).call S;have HF:=hide (zw G.at_.bN (dK.keep (ae HO) G.at_.keeps hp eB) hp (by rw [G.at_.depth];exact hd));have F2:=hide G;clear S G;unfold iZ;go_wp2_with fail;refine (ae HF).mono ?_;rintro r w3 ⟨e,rfl,S,-⟩;obtain ⟨te,ve,jW⟩:=ek e;rw [jW];obtain ⟨x3,l3,G⟩:=(ae F2).call S;obtain ⟨⟨n0,n1⟩,⟨q0,q1⟩,hz,hE⟩:=G.ends;have z0:=hz 0;have z1:=hz 1;have HE:=hide hE;have iq:¬(w1.heap.size=w.heap.size):=by omega
 clear S G hz hE jW;go_wp2_with fail
 (try simp only [Exit.inBlock,Exit.then])
 refine ay (v:=.agg #[.string (bn m.tk),.int .i64 m.place]) (by simp [results,Tryz.results110,go_sem,q0,q1];try rfl) rfl ?_;exact ⟨(bn m.tk,m.place),rfl,ae HE _ _⟩
theorem TL {p:Nat}(hp:12<=p):KJ 110 p eL:=⟨Tryz.call110,CQ,λ_ _ _ _ h ho hd=>TK hp h ho hd⟩
theorem M8 {w:World}{p:Nat}{x:cB}{m:Mode}{l:List Tok}(h:cO w p x m l):Calls Tryz.prog 113 #[.pointer (some ⟨p,0,none⟩)] w λr w'=>
 ∃c:Nm,r=.returned (.agg #[.string c.1,.int .i64 c.2])/\bI w w' p x (dC m).2:=by
 have F:=hide (Fr.start h nmZ);clear h;go_enter Tryz.func113,Tryz.ntmps113;go_wp2_with fail;refine (jk (ae F).at_.bN).mono ?_;rintro r w1 ⟨rfl,S⟩;obtain ⟨x1,l1,G⟩:=(ae F).call S;have bL:=G.at_.big;have hT:=ji (G.new (nmO m)).at_.bN 28;have hM:(if aB m.name.2.tk=28 then m.name.2.next else m.name.2)=(dC m).2:=by
  unfold dC;rw [aaE G.at_.bN.xF];by_cases UH:aB m.name.2.tk=28
  . rw [aH UH,bu UH];rfl
  . rw [aA UH,aI UH];rfl
 rw [hM] at hT;obtain ⟨M,DN⟩:∃M,M=(dC m).2:=⟨_,rfl⟩;rw [<- DN] at hT;have TI:=hide DN;have HT:=hide hT;have F1:=hide (G.new (nmO m));clear S G hT hM DN;go_wp2_with fail;refine (ae HT).mono ?_;rintro r w3 ⟨rfl,S⟩;obtain ⟨x3,l3,G⟩:=(ae F1).call S;obtain ⟨⟨n0,n1⟩,⟨q0,q1⟩,hz,hE⟩:=G.ends;have z0:=hz 0;have z1:=hz 1;have HE:=hide hE;have iq:¬(w1.heap.size=w.heap.size):=by omega
 clear S G hz hE;go_wp2_with fail
 (try simp only [Exit.inBlock,Exit.then])
 refine ay (v:=.agg #[.string (bn m.tk),.int .i64 m.place]) (by simp [results,Tryz.results113,go_sem,q0,q1];try rfl) rfl ?_;exact ⟨(bn m.tk,m.place),rfl,by rw [<- ae TI];exact ae HE _ _⟩
theorem Xd {p:Nat}:KJ 113 p dC:=⟨Tryz.call113,AU,λ_ _ _ _ h _ _=>M8 h⟩
theorem aaF {w:World}{p:Nat}{x:cB}{m:Mode}{l:List Tok}(h:cO w p x m l):Calls Tryz.prog 111 #[.pointer (some ⟨p,0,none⟩)] w λr w'=>
 r=.returned (.tuple #[])/\bI w w' p x ((m.name.2.take wy).name.2.take vJ).name.2:=by
 have F:=hide (PG.start h);clear h;go_enter Tryz.func111,Tryz.ntmps111;go_wp2_with fail;refine (jk (ae F).bN).mono ?_;rintro r w1 ⟨rfl,S⟩;obtain ⟨x1,l1,G⟩:=(ae F).call S;have F1:=hide G;clear S G;go_wp2_with fail;refine (gK (ae F1).bN 25).mono ?_;rintro r w2 ⟨rfl,S⟩;rw [KM (ae F1).bN] at S;obtain ⟨x2,l2,G⟩:=(ae F1).call S;have F2:=hide G;clear S G;unfold iZ;go_wp2_with fail;refine (jk (ae F2).bN).mono ?_;rintro r w3 ⟨rfl,S⟩;obtain ⟨x3,l3,G⟩:=(ae F2).call S;have F3:=hide G;clear S G;go_wp2_with fail;refine (gK (ae F3).bN 8).mono ?_;rintro r w4 ⟨rfl,S⟩;rw [KL (ae F3).bN] at S;obtain ⟨x4,l4,G⟩:=(ae F3).call S;have F4:=hide G;clear S G;unfold iZ;go_wp2_with fail;refine (jk (ae F4).bN).mono ?_;rintro r w5 ⟨rfl,S⟩;obtain ⟨x5,l5,G⟩:=(ae F4).call S;have F5:=hide G;clear S G;go_wp2_with fail;go_end0;exact ⟨rfl,(ae F5).step⟩
def eO (m:Mode):Mode:=m.name.2.take vJ
def BZ (m:Mode):Bool:=m.is jE||m.is x9||m.is yL||m.is zX
def kq (m:Mode):Mode:=(if BZ (eO m) then (eO m).next else (eO m).wrong 2).take cI
def fnM (m:Mode):ByteArray:=match m.tk with
 |.word s=>s
 |.sign s=>s
 |_=>ByteArray.empty
theorem Jk (m:Mode):jO m=if (eO m).is jE&&(kq m).is eG then (⟨m.name.1,fnM (eO m),(eO m).place,(ByteArray.empty,0),true⟩,(kq m).take eG)
 else (⟨m.name.1,fnM (eO m),(eO m).place,(kq m).name.1,false⟩,(kq m).name.2.take eG):=rfl
theorem PV (m:Mode):(kq m).len<=(eO m).len:=by
 unfold kq;refine aw (ij _ _) ?_;split
 . exact bG
 . exact mZ _ 2
theorem PW (m:Mode):(eO m).len<=m.len:=aw (ij _ _) (cP m)
theorem Jl (m:Mode):(jO m).2.len<=m.len:=by
 have h1:=aw (PV m) (PW m);rw [Jk];split
 . exact aw (ij _ _) h1
 . exact aw (ij _ _) (aw (cP _) h1)
theorem aeE {m:Mode}(hw:m.tk.wf):m.is eG=decide (aB m.tk=12):=iW (i:=7) hw rfl (by decide)
theorem M9 {m:Mode}(hw:m.tk.wf):BZ m=decide (aB m.tk=45\/aB m.tk=46\/aB m.tk=47\/aB m.tk=48):=by
 unfold BZ;rw [show m.is jE=decide (aB m.tk=45) from eu (i:=24) hw rfl (by decide),show m.is x9=decide (aB m.tk=46) from eu (i:=25) hw rfl (by decide),show m.is yL=decide (aB m.tk=47) from eu (i:=26) hw rfl (by decide),show m.is zX=decide (aB m.tk=48) from eu (i:=27) hw rfl (by decide)];by_cases h1:aB m.tk=45
 . simp [h1]
 . by_cases h2:aB m.tk=46
   . simp [h2]
   . by_cases h3:aB m.tk=47
     . simp [h3]
     . by_cases h4:aB m.tk=48
       . simp [h4]
       . simp [h1,h2,h3,h4]
def Jm (way:Nat)(m:Mode):Mode:=if way=45/\aB m.tk=12 then m else m.name.2
theorem Xe {m:Mode}(o9:(eO m).tk.wf)(Pj:(kq m).tk.wf):(Jm (aB (eO m).tk) (kq m)).take eG=(jO m).2:=by
 have hc:(eO m).is jE=decide (aB (eO m).tk=45):=eu (i:=24) o9 rfl (by decide);rw [Jk,hc,aeE Pj];unfold Jm;by_cases h1:aB (eO m).tk=45
 . by_cases h2:aB (kq m).tk=12
   . rw [aH ⟨h1,h2⟩,bu h1,bu h2];rfl
   . rw [aA (λh=>h2 h.2),bu h1,aI h2];rfl
 . rw [aA (λh=>h1 h.1),aI h1];rfl
theorem Fr.acf {w w1:World}{p:Nat}{x x1:cB}{m1:Mode}{l1:List Tok}{b:Nat×Obj}{bs:List (Nat×Obj)}(F:Fr w w1 p x x1 m1 l1 (b::bs)):Fr w w1 p x x1 m1 l1 bs:=⟨F.at_,λq hq=>F.dV q (dY _ hq)⟩
theorem PX {w:World}{p:Nat}{x:cB}{m:Mode}{l:List Tok}(h:cO w p x m l){K:Nat}(hk:aB (eO m).tk=K):Calls Tryz.prog 136 #[.pointer (some ⟨p,0,none⟩)] w λr w'=>
 ∃c:Nm,r=.returned (.agg #[.string c.1,.int .i64 c.2])/\bI w w' p x ((Jm K (kq m)).take eG)/\(eO m).tk.wf/\(kq m).tk.wf:=by
 have h5:K=45\/K=46\/K=47\/K=48\/(K≠45/\K≠46/\K≠47/\K≠48):=by omega
 have F:=hide (Fr.start h nmZ);have HK:=hide hk;have eB:=h.bN.lt;clear h hk;rcases h5 with h|h|h|h|⟨h,k2,k3,k4⟩
 all_goals
  (try have e1:((K:Int)==45)=true:=by rw [bz];omega)
  (try have e1:((K:Int)==45)=false:=by rw [aj];omega)
  (try have e2:((K:Int)==46)=true:=by rw [bz];omega)
  (try have e2:((K:Int)==46)=false:=by rw [aj];omega)
  (try have e3:((K:Int)==47)=true:=by rw [bz];omega)
  (try have e3:((K:Int)==47)=false:=by rw [aj];omega)
  (try have e4:((K:Int)==48)=true:=by rw [bz];omega)
  (try have e4:((K:Int)==48)=false:=by rw [aj];omega)
  (try have e5:((K:Int) != 45)=true:=by rw [gy];omega)
  (try have e5:((K:Int) != 45)=false:=by rw [h];rfl)
  (try have e6:((K:Int)=45)=True:=eq_true (by omega))
  (try have e6:((K:Int)=45)=False:=eq_false (by omega))
  (try have e7:(K=45)=True:=eq_true (by omega))
  (try have e7:(K=45)=False:=eq_false (by omega))
  have HH:=hide h
  (try clear k2 k3 k4)
  clear h;go_enter Tryz.func136,Tryz.ntmps136;go_wp2_with fail;refine (jk (ae F).at_.bN).mono ?_;rintro r w1 ⟨rfl,S⟩;obtain ⟨x1,l1,G⟩:=(ae F).call S;have bL:=G.at_.big;have F1:=hide (G.new (nmO m));clear S G;go_wp2_with fail;refine (gK (ae F1).at_.bN 8).mono ?_;rintro r w2 ⟨rfl,S⟩;rw [KL (ae F1).at_.bN] at S;obtain ⟨x2,l2,G⟩:=(ae F1).call (m2:=eO m) S;have hT:=gJ G.at_.bN;have hbg:=G.at_.big;unfold iZ at hT;rw [ae HK] at hT;have HT:=hide hT;have xX:=hide G.at_.bN.xF;have F2:=hide G;clear S G hT;unfold iZ;go_wp2_with fail;refine (ae HT).mono ?_;rintro r w3 ⟨rfl,S⟩;obtain ⟨x3,l3,G⟩:=(ae F2).call S;have eD:=G.at_.big;have U3:=(G.dV (w1.heap.size,nmO m) (by simp)).1;have hl3:=fK U3;obtain ⟨t0,t1,t2,t3⟩:=bD (ai w3 (.cells #[.int .i64 K,.int .i64 (eO m).place,.string (bn (eO m).tk),.int .i64 (dt (eO m).tk)] 102));have F3:=hide (G.new (.cells #[.int .i64 K,.int .i64 (eO m).place,.string (bn (eO m).tk),.int .i64 (dt (eO m).tk)] 102));clear S G U3;go_wp2_with fail
 all_goals
  (try
    have hR:=mX (ae F3).at_.bN (eO m).tk (eO m).place;unfold iZ at hR;rw [ae HK] at hR;have HR:=hide hR;clear hR;refine (ae HR).mono ?_;rintro r w4 ⟨rfl,S⟩;rw [pL] at S;obtain ⟨x4,l4,G⟩:=(ae F3).call S;clear t0 t1 t2 t3 S HR;obtain ⟨t0,t1,t2,t3⟩:=bD (G.dV (w3.heap.size,_) (dL ..)).1;have F3:=hide G;clear G;go_wp2_with fail)
  first
   | (have hMx:(eO m).next=(if BZ (eO m) then (eO m).next else (eO m).wrong 2):=by
       rw [M9 (ae xX),ae HK,aH (by have:=ae HH;simp [this])]
      rw [hMx] at F3;clear hMx)
   | (have hMx:(eO m).wrong 2=(if BZ (eO m) then (eO m).next else (eO m).wrong 2):=by
       have h1:=e1;have h2:=e2;have h3:=e3;have h4:=e4;rw [aj] at h1 h2 h3 h4;rw [M9 (ae xX),ae HK,aA (by simp;omega)]
      rw [hMx] at F3;clear hMx)
  obtain ⟨M3,hM3⟩:∃M3,M3=(if BZ (eO m) then (eO m).next else (eO m).wrong 2):=⟨_,rfl⟩;rw [<- hM3] at F3;have IJ:Hid (M3.take cI=kq m):=hide (by rw [hM3];rfl);clear hM3;refine (gK (ae F3).at_.bN 11).mono ?_;rintro r w5 ⟨rfl,S⟩;rw [xH (ae F3).at_.bN,ae IJ] at S;obtain ⟨x5,l5,G⟩:=(ae F3).call (m2:=kq m) S;clear t0 t1 t2 t3 S;obtain ⟨t0,t1,t2,t3⟩:=bD (G.dV (w3.heap.size,_) (dL ..)).1;have vG:=hide G.at_.bN.xF;have vz:Below w5.heap.size w5 (w5.alloc (.cells #[.int .i64 12] 100)):=(ag _ _).alloc (af _) _;have HI:=hide (lh (G.below vz).at_.bN [12] w5.heap.size 1 (wV w5 12) (by simp) (by simp));have F4:=hide (G.below vz);have F5:=hide G;obtain ⟨y0,y1,y2,y3⟩:=bD ((G.below vz).dV (w3.heap.size,_) (dL ..)).1;have hl5:=fK (G.dV (w1.heap.size,nmO m) (by simp)).1;clear G vz;unfold iZ;by_cases JL:aB (kq m).tk=12
  . have hd:decide (aB (kq m).tk∈[12])=true:=by simpa using JL
    rw [hd] at HI;have H12:=hide JL;clear hd JL;go_wp2_with fail
    first
     | (refine (ae HI).mono ?_
        rintro r w6 ⟨rfl,Gz⟩;have F6:=hide ((ae F4).below Gz);have HG:Hid (Jm K (kq m)=kq m):=hide (aH ⟨ae HH,ae H12⟩);clear Gz;go_wp2_with fail;refine (gK (ae F6).at_.bN 12).mono ?_;rintro r w7 ⟨rfl,S⟩;rw [oj (ae F6).at_.bN] at S;obtain ⟨x7,l7,G⟩:=(ae F6).call S;rw [<- ae HG] at G;have HGG:=hide G;clear S G)
     | (refine (jk (ae F5).at_.bN).mono ?_
        rintro r w6 ⟨rfl,S⟩;obtain ⟨x6,l6,G⟩:=(ae F5).call S;have F6:=hide G;have HG:Hid (Jm K (kq m)=(kq m).name.2):=hide (aA (λhh=>by have:=ae HH;omega));clear S G;go_wp2_with fail;refine (gK (ae F6).at_.bN 12).mono ?_;rintro r w7 ⟨rfl,S⟩;rw [oj (ae F6).at_.bN] at S;obtain ⟨x7,l7,G⟩:=(ae F6).call S;rw [<- ae HG] at G;have HGG:=hide G;clear S G)
    obtain ⟨⟨n0,n1⟩,⟨q0,q1⟩,hz,hE⟩:=(ae HGG).acf.ends;have z0:=hz 0;have z1:=hz 1;have HE:=hide hE;have iq:¬(w1.heap.size=w.heap.size):=by omega
    clear hz hE;unfold iZ;go_wp2_with fail
    (try simp only [Exit.inBlock,Exit.then])
    refine ay (v:=.agg #[.string (bn m.tk),.int .i64 m.place]) (by simp [results,Tryz.results136,go_sem,q0,q1];try rfl) rfl ?_;exact ⟨(bn m.tk,m.place),rfl,ae HE _ _,ae xX,ae vG⟩
  . have hd:decide (aB (kq m).tk∈[12])=false:=by simpa using JL
    rw [hd] at HI;have HG:Hid (Jm K (kq m)=(kq m).name.2):=hide (aA (λhh=>JL hh.2));clear hd JL;go_wp2_with fail
    first
     | (refine (ae HI).mono ?_
        rintro r w6 ⟨rfl,Gz⟩;have F6:=hide ((ae F4).below Gz);clear Gz;go_wp2_with fail;refine (jk (ae F6).at_.bN).mono ?_;rintro r w6 ⟨rfl,S⟩;obtain ⟨x6,l6,G⟩:=(ae F6).call S;have F7:=hide G;clear S G)
     | (refine (jk (ae F5).at_.bN).mono ?_
        rintro r w6 ⟨rfl,S⟩;obtain ⟨x6,l6,G⟩:=(ae F5).call S;have F7:=hide G;clear S G)
    go_wp2_with fail;refine (gK (ae F7).at_.bN 12).mono ?_;rintro r w7 ⟨rfl,S⟩;rw [oj (ae F7).at_.bN] at S;obtain ⟨x7,l7,G⟩:=(ae F7).call S;rw [<- ae HG] at G;obtain ⟨⟨n0,n1⟩,⟨q0,q1⟩,hz,hE⟩:=G.acf.ends;have z0:=hz 0;have z1:=hz 1;have HE:=hide hE;have iq:¬(w1.heap.size=w.heap.size):=by omega
    clear S G hz hE;unfold iZ;go_wp2_with fail
    (try simp only [Exit.inBlock,Exit.then])
    refine ay (v:=.agg #[.string (bn m.tk),.int .i64 m.place]) (by simp [results,Tryz.results136,go_sem,q0,q1];try rfl) rfl ?_;exact ⟨(bn m.tk,m.place),rfl,ae HE _ _,ae xX,ae vG⟩
theorem aaG {w:World}{p:Nat}{x:cB}{m:Mode}{l:List Tok}(h:cO w p x m l):Calls Tryz.prog 136 #[.pointer (some ⟨p,0,none⟩)] w λr w'=>
 ∃c:Nm,r=.returned (.agg #[.string c.1,.int .i64 c.2])/\bI w w' p x (jO m).2:=by
 refine (PX h rfl).mono ?_;rintro r w' ⟨c,rfl,S,h1,h2⟩;rw [Xe h1 h2] at S;exact ⟨c,rfl,S⟩
theorem RF {p:Nat}:KJ 136 p jO:=⟨Tryz.call136,Jl,λ_ _ _ _ h _ _=>aaG h⟩
theorem Na {m:Mode}(hw:m.tk.wf):m.is gW=decide (aB m.tk=15):=iW (i:=10) hw rfl (by decide)
theorem FZ {w:World}{p:Nat}{x:cB}{m:Mode}{l:List Tok}(h:cO w p x m l):(if aB m.tk=15 then m.next else m.wrong 2)=m.take gW:=uM (Na h.xF)
def B0 (m:Mode):List Nm×Mode:=match m.tk with
 |.name _=>gu m
 |_=>([],m)
def CS (m:Mode):List Nm×Mode:=if aB m.tk=15 then ([],m) else gu m
theorem TM {α:Type}(one:Mode->α×Mode)(n:Nat)(l:List α)(e b:Nat):fm one n l (.dead e b)=(l,.dead e b):=by
 cases n<;>rfl
theorem TN {α:Type}{one:Mode->α×Mode}{m:Mode}{e b:Nat}(h:(one m).2=.dead e b):(cC one m).2=.dead e b:=by
 unfold cC;rw [h,TM]
theorem zx (m:Mode)(e:Nat):∃a b,m.wrong e=.dead a b:=by
 cases m with
 |live t ts=>exact ⟨e,t.pl,rfl⟩
 |dead a b=>exact ⟨a,b,rfl⟩
theorem aaH {m:Mode}(hw:m.tk.wf):(CS m).2.take gW=(B0 m).2.take gW/\(((B0 m).2.take gW).alive->(CS m).1=(B0 m).1):=by
 have hc:=Na hw;unfold CS B0;have other:(¬∃t,m.tk=.name t)->¬aB m.tk=15->(gu m).2.take gW=m.take gW/\¬(m.take gW).alive:=by
  intro hn N7;have hnm:m.name.2=m.wrong 2:=by
   unfold Mode.name;split
   . exact absurd ⟨_,‹m.tk=_›⟩ hn
   . rfl
  obtain ⟨a,b,Iw⟩:=zx m 2;have h1:(gu m).2=.dead a b:=TN (by rw [hnm,Iw]);have h2:m.take gW=.dead a b:=by
   unfold Mode.take;rw [hc,aI N7,<- Iw];rfl
  rw [h1,h2];exact ⟨rfl,λh=>h⟩
 by_cases N7:aB m.tk=15
 . rw [aH N7]
   cases hk:m.tk with
   |name t=>rw [hk] at N7;simp [aB] at N7
   |_=>exact ⟨rfl,λ_=>rfl⟩
 . rw [aA N7]
   cases hk:m.tk with
   |name t=>exact ⟨rfl,λ_=>rfl⟩
   |_=>
     obtain ⟨o1,o2⟩:=other (by rw [hk];rintro ⟨t,ht⟩;cases ht) N7;exact ⟨o1,λha=>absurd ha o2⟩
theorem KN {w:World}{p:Nat}{x:cB}{m:Mode}{l:List Tok}(h:cO w p x m l)(N7:¬aB m.tk=15):Calls Tryz.prog 79 #[.pointer (some ⟨p,0,none⟩)] w λr w'=>
 ∃v ls,r=.returned v/\bI w w' p x (CS m).2/\w'.ownsRow w.heap.size 106 2 v ls.length (jF ls)/\((CS m).2.alive->ls=(CS m).1):=by
 have hk:CS m=gu m:=aA N7;rw [hk];exact MA h (by have:=h.Pu;omega)
theorem wY {α:Type}{one:Mode->α×Mode}(h:∀m,(one m).2.len<=m.len)(m:Mode):(cC one m).2.len<=m.len:=by
 have key:∀n l m,(fm one n l m).2.len<=m.len:=by
  intro n
  induction n with
  |zero=>exact λl m=>af _
  |succ n ih=>
    intro l m;unfold fm;split
    . exact aw (ih _ _) (aw (h _) bG)
    . exact af _
 exact aw (key _ _ _) (h m)
theorem Xf (m:Mode):(dh m).1.pl=m.place:=by
 unfold dh;split
 . rfl
 . split
   . rfl
   . split
     . rfl
     . split
       . rfl
       . split
         . rfl
         . simp only
           split<;>rfl
theorem Jo (m:Mode):(dh m).2.len<=m.len:=by
 unfold dh;split
 . exact aw (ME _) bG
 . split
   . exact aw (wY CQ _) bG
   . split
     . exact aw (cP _) (aw (ij _ _) (aw (cP _) (aw (ij _ _) (aw (cP _) bG))))
     . split
       . refine aw (wY Jl _) (aw (ij _ _) ?_)
         split
         . exact aw (wY cP _) bG
         . exact bG
       . split
         . exact aw (wY AU _) bG
         . simp only
           split
           . exact aw bG (ij _ _)
           . exact aw (mZ _ 2) (ij _ _)
theorem aeF {m:Mode}(hw:m.tk.wf):m.is EK=decide (aB m.tk=14):=iW (i:=9) hw rfl (by decide)
theorem KO {f:Nat}{ss:List gV}{m:Mode}{r:List gV×Mode}(h:eC (f+1) ss m=r)(hb:m.is EK=true):eC f (ss++[(dh m.next).1]) (dh m.next).2=r:=by
 rw [<- h]
 conv=>rhs;unfold eC;rw [aH hb]
theorem KP {f:Nat}{ss:List gV}{m:Mode}(hb:m.is EK=false):eC f ss m=(ss,m):=by
 cases f with
 |zero=>rfl
 |succ f=>unfold eC;rw [aA (by rw [hb];decide)]
section
variable {m:Mode} (hw:m.tk.wf)
include hw
theorem sd:m.is kP=decide (aB m.tk=22):=eu (i:=1) hw rfl (by decide)
theorem Jp:m.is C9=decide (aB m.tk=23):=eu (i:=2) hw rfl (by decide)
theorem F8:m.is yt=decide (aB m.tk=24):=eu (i:=3) hw rfl (by decide)
theorem DZ:m.is wz=decide (aB m.tk=26):=eu (i:=5) hw rfl (by decide)
theorem KQ:m.is Bu=decide (aB m.tk=27):=eu (i:=6) hw rfl (by decide)
theorem RG:m.is fl=decide (aB m.tk=29):=eu (i:=8) hw rfl (by decide)
theorem Nb (h:aB m.tk=22):(dh m).2=(nR m.next).2:=by
 unfold dh;rw [sd hw,bu h];rfl
theorem TP (h:aB m.tk=23):(dh m).2=(cC eL m.next).2:=by
 unfold dh;rw [sd hw,Jp hw,bu h,aI (by omega)];rfl
theorem PY (h:aB m.tk=24):(dh m).2=((m.next.name.2.take wy).name.2.take vJ).name.2:=by
 unfold dh;rw [sd hw,Jp hw,F8 hw,bu h,aI (show ¬aB m.tk=22 by omega),aI (show ¬aB m.tk=23 by omega)];rfl
theorem Nc (h:aB m.tk=26):(dh m).2=(cC jO ((B0 m.next).2.take gW)).2:=by
 unfold dh;rw [sd hw,Jp hw,F8 hw,DZ hw,bu h,aI (show ¬aB m.tk=22 by omega),aI (show ¬aB m.tk=23 by omega),aI (show ¬aB m.tk=24 by omega)];rfl
theorem Nd (h:aB m.tk=27):(dh m).2=(cC dC m.next).2:=by
 unfold dh;rw [sd hw,Jp hw,F8 hw,DZ hw,KQ hw,bu h,aI (show ¬aB m.tk=22 by omega),aI (show ¬aB m.tk=23 by omega),aI (show ¬aB m.tk=24 by omega),aI (show ¬aB m.tk=26 by omega)];rfl
theorem Nf (h:aB m.tk=29):(dh m).2=(if aB m.next.tk=3 then m.next.next else m.next.wrong 2):=by
 have ht:m.take fl=m.next:=by unfold Mode.take;rw [RG hw,bu h];rfl
 unfold dh;rw [sd hw,Jp hw,F8 hw,DZ hw,KQ hw,ht,aI (show ¬aB m.tk=22 by omega),aI (show ¬aB m.tk=23 by omega),aI (show ¬aB m.tk=24 by omega),aI (show ¬aB m.tk=26 by omega),aI (show ¬aB m.tk=27 by omega)];have key:∀mm:Mode,(match mm.tk with
  |.num n=>({ bare fl m.place with n:=n },mm.next)
  |_=>(bare fl m.place,mm.wrong 2):gV×Mode).2=if aB mm.tk=3 then mm.next else mm.wrong 2:=by
  intro mm
  cases hk:mm.tk with
  |num n=>rfl
  |stop=>rfl
  |bad=>rfl
  |name t=>rfl
  |str t=>rfl
  |sign t=>exact (aA (by simp only [aB];omega)).symm
  |word t=>exact (aA (by simp only [aB];omega)).symm
 exact key m.next
theorem PZ (h22:¬aB m.tk=22)(h23:¬aB m.tk=23)(h24:¬aB m.tk=24)(h26:¬aB m.tk=26)(h27:¬aB m.tk=27)(h29:¬aB m.tk=29):(dh m).2=m.wrong 2:=by
 have ht:m.take fl=m.wrong 2:=by unfold Mode.take;rw [RG hw,aI h29];rfl
 unfold dh;rw [sd hw,Jp hw,F8 hw,DZ hw,KQ hw,ht,aI h22,aI h23,aI h24,aI h26,aI h27];obtain ⟨a,b,Iw⟩:=zx m 2;rw [Iw];rfl
end
theorem Xg {w:World}{p:Nat}{x:cB}{m:Mode}{l:List Tok}(h:cO w p x m l)(ho:dK w)(hp:12<=p)(hd:x.depth=0):Calls Tryz.prog 112 #[.pointer (some ⟨p,0,none⟩)] w λr w'=>
 r=.returned (.tuple #[])/\bI w w' p x (cC jO ((B0 m).2.take gW)).2:=by
 have HKI:=hide (aaH h.xF);have iw:Below w.heap.size w (w.alloc (.cells #[.int .i64 15] 100)):=(ag _ _).alloc (af _) _;have HI:=hide (lh (h.below iw) [15] w.heap.size 1 (wV w 15) (by simp) (by simp));have HA:=hide ((PG.start h).below iw);have HO:=hide ho;have eB:=h.bN.lt;clear h iw ho;by_cases N7:aB m.tk=15
 . have Xh:decide (aB m.tk∈[15])=true:=by simpa using N7
   rw [Xh] at HI;have HKR:=hide (show CS m=([],m) from aH N7);clear N7 Xh;rw [ae HKR] at HKI;go_enter Tryz.func112,Tryz.ntmps112;go_wp2_with fail;refine (ae HI).mono ?_;rintro r w1 ⟨rfl,bL⟩;have qp:=hide ((ae HA).below bL);clear bL;go_wp2_with fail;refine (gK (ae qp).bN 15).mono ?_;rintro r w2 ⟨rfl,S2⟩;rw [FZ (ae qp).bN,(ae HKI).1] at S2;obtain ⟨x2,l2,A2⟩:=(ae qp).call S2;have HL:=hide (AQ RF A2.bN (dK.keep (ae HO) A2.keeps hp eB) hp (by rw [A2.depth];exact hd));have rE:=hide A2;clear S2 A2;unfold iZ;go_wp2_with fail;refine (ae HL).mono ?_;rintro r w3 ⟨v,rfl,S3⟩;obtain ⟨x3,l3,A3⟩:=(ae rE).call S3;have HS:=hide A3.step;clear S3 A3;go_wp2_with fail;go_end0;exact ⟨rfl,ae HS⟩
 . have Xh:decide (aB m.tk∈[15])=false:=by simpa using N7
   rw [Xh] at HI;have Lw:=hide (λ(W:World) (y:cB) (ly:List Tok) (hy:cO W p y m ly)=>KN hy N7);clear N7 Xh;go_enter Tryz.func112,Tryz.ntmps112;go_wp2_with fail;refine (ae HI).mono ?_;rintro r w0 ⟨rfl,kX⟩;have A0:=(ae HA).below kX;have HK:=hide (ae Lw _ _ _ A0.bN);have GA:=hide A0;clear kX A0;go_wp2_with fail;refine (ae HK).mono ?_;rintro r w1 ⟨v1,ls,rfl,S1,hv1,hls⟩;obtain ⟨x1,l1,A1⟩:=(ae GA).call S1;have qp:=hide A1;clear S1 A1 hv1 hls;go_wp2_with fail;refine (gK (ae qp).bN 15).mono ?_;rintro r w2 ⟨rfl,S2⟩;rw [FZ (ae qp).bN,(ae HKI).1] at S2;obtain ⟨x2,l2,A2⟩:=(ae qp).call S2;have HL:=hide (AQ RF A2.bN (dK.keep (ae HO) A2.keeps hp eB) hp (by rw [A2.depth];exact hd));have rE:=hide A2;clear S2 A2;unfold iZ;go_wp2_with fail;refine (ae HL).mono ?_;rintro r w3 ⟨v,rfl,S3⟩;obtain ⟨x3,l3,A3⟩:=(ae rE).call S3;have HS:=hide A3.step;clear S3 A3;go_wp2_with fail;go_end0;exact ⟨rfl,ae HS⟩
theorem Xi {w:World}{p:Nat}{x:cB}{m:Mode}{l:List Tok}(h:cO w p x m l)(ho:dK w)(hp:12<=p)(hd:x.depth=0):Calls Tryz.prog 82 #[.pointer (some ⟨p,0,none⟩)] w λr w'=>
 r=.returned (.agg #[.int .i64 m.place])/\bI w w' p x (dh m).2:=by
 obtain ⟨K,hK⟩:∃K,K=aB m.tk:=⟨_,rfl⟩;have h7:K=22\/K=23\/K=24\/K=26\/K=27\/K=29\/(K≠22/\K≠23/\K≠24/\K≠26/\K≠27/\K≠29):=by omega
 have F:=hide (Fr.start h (.cells #[.int .i64 0] 145));have HWF:=hide h.xF;have hT:=gJ (ae F).at_.bN;unfold iZ at hT;rw [<- hK] at hT;have HT:=hide hT;have HK:=hide hK;have HO:=hide ho;have eB:=h.bN.lt;clear h ho hT hK;rcases h7 with h|h|h|h|h|h|⟨h,k2,k3,k4,k5,k6⟩
 all_goals
  (try have e1:((K:Int)==22)=true:=by rw [bz];omega)
  (try have e1:((K:Int)==22)=false:=by rw [aj];omega)
  (try have e2:((K:Int)==23)=true:=by rw [bz];omega)
  (try have e2:((K:Int)==23)=false:=by rw [aj];omega)
  (try have e3:((K:Int)==24)=true:=by rw [bz];omega)
  (try have e3:((K:Int)==24)=false:=by rw [aj];omega)
  (try have e4:((K:Int)==26)=true:=by rw [bz];omega)
  (try have e4:((K:Int)==26)=false:=by rw [aj];omega)
  (try have e5:((K:Int)==27)=true:=by rw [bz];omega)
  (try have e5:((K:Int)==27)=false:=by rw [aj];omega)
  (try have e6:((K:Int)==29)=true:=by rw [bz];omega)
  (try have e6:((K:Int)==29)=false:=by rw [aj];omega)
  first
   |have OZ:=hide (Nb (ae HWF) ((ae HK).symm.trans h))
   |have OZ:=hide (TP (ae HWF) ((ae HK).symm.trans h))
   |have OZ:=hide (PY (ae HWF) ((ae HK).symm.trans h))
   |have OZ:=hide (Nc (ae HWF) ((ae HK).symm.trans h))
   |have OZ:=hide (Nd (ae HWF) ((ae HK).symm.trans h))
   |have OZ:=hide (Nf (ae HWF) ((ae HK).symm.trans h))
   |have OZ:=hide (PZ (ae HWF) (by rw [<- ae HK];exact h) (by rw [<- ae HK];exact k2) (by rw [<- ae HK];exact k3) (by rw [<- ae HK];exact k4) (by rw [<- ae HK];exact k5) (by rw [<- ae HK];exact k6))
  (try clear k2 k3 k4 k5 k6)
  clear h;go_enter Tryz.func82,Tryz.ntmps82;go_wp2_with fail;refine (ae HT).mono ?_;rintro r w1 ⟨rfl,S⟩;obtain ⟨x1,l1,G⟩:=(ae F).call S;have bL:=G.at_.big;obtain ⟨t0,t1,t2,t3⟩:=bD (ai w1 (.cells #[.int .i64 K,.int .i64 m.place,.string (bn m.tk),.int .i64 (dt m.tk)] 102));have G2:=G.new (.cells #[.int .i64 K,.int .i64 m.place,.string (bn m.tk),.int .i64 (dt m.tk)] 102);have ke:=dK.keep (ae HO) G2.at_.keeps hp eB;have I5:x1.depth=0:=by rw [G2.at_.depth];exact hd
  have NS:=hide (zw G2.at_.bN ke hp I5);have o8:=hide (AQ (TL hp) G2.at_.bN ke hp I5);have Ps:=hide (aaF G2.at_.bN);have HC4:=hide (Xg G2.at_.bN ke hp I5);have HC5:=hide (AQ Xd G2.at_.bN ke hp I5);have HC6:=hide (gK G2.at_.bN 3);have hR:=mX G2.at_.bN m.tk m.place;unfold iZ at hR;rw [<- ae HK] at hR;have HC7:=hide hR;have F2:=hide G2;clear S G G2 ke hR;go_wp2_with fail
  first
   | ((with_reducible refine ju (ae NS) ?_);rintro r w2 ⟨e,rfl,S,-⟩)
   | ((with_reducible refine ju (ae o8) ?_);rintro r w2 ⟨e,rfl,S⟩)
   | ((with_reducible refine ju (ae Ps) ?_);rintro r w2 ⟨rfl,S⟩)
   | ((with_reducible refine ju (ae HC4) ?_);rintro r w2 ⟨rfl,S⟩)
   | ((with_reducible refine ju (ae HC5) ?_);rintro r w2 ⟨e,rfl,S⟩)
   | ((with_reducible refine ju (ae HC6) ?_);rintro r w2 ⟨rfl,S⟩)
   | ((with_reducible refine ju (ae HC7) ?_);rintro r w2 ⟨rfl,S⟩;rw [pL] at S)
  rw [<- ae OZ] at S;obtain ⟨x3,l3,G⟩:=(ae F2).call S;obtain ⟨y0,y1,y2,y3⟩:=bD (G.dV (w1.heap.size,_) (dL ..)).1;have hRb:=(G.dV (w.heap.size,.cells #[.int .i64 0] 145) (by simp)).1;have q0:w2.cell? ⟨w.heap.size,0,none⟩=some (.int .i64 0):=by simp [World.cell?,hRb]
  have z0:=aK hRb 0;have HE:=hide (λa=>(G.at_.set 0 a).step);have iq:¬(w1.heap.size=w.heap.size):=by omega
  clear S G hRb NS o8 Ps HC4 HC5 HC6 HC7
  (try unfold iZ)
  go_wp2_with fail
  (try simp only [Exit.inBlock,Exit.then])
  refine ay (v:=.agg #[.int .i64 m.place]) (by simp [results,Tryz.results82,go_sem,q0];try rfl) rfl ?_;exact ⟨rfl,ae HE _⟩
end Go.Proofs.YteniahoehoncjaaGreatDoor
