import Derived.Test.YteniahoehoncjaaGreatDoorQAI
import Derived.Test.YteniahoehoncjaaGreatDoorQAS
set_option maxHeartbeats 99999999
set_option maxRecDepth 100000
namespace Go.Proofs.YteniahoehoncjaaGreatDoor
open Go.RowKit
theorem fP.ait {w wr w1:World}{p:Nat}{x x':cB}{m0 m' m1:Mode}{l':List Tok}{e:TypeId}{size:Nat}{v:Value}{n:Nat}{xs:List Value}(h:fP w wr p x x' m0 m' l' e size v n xs)(S:bI wr w1 p x' m1)(hf:m1.len<=m'.len):∃x1 l1,fP w w1 p x x1 m0 m1 l1 e size v n xs/\tI wr x' x1:=by
 obtain ⟨x1,l1,h1,sM,pj⟩:=S.ex;have hk:=h.keeps.size;have hfe:=h.few;refine ⟨x1,l1,⟨h1,sM.trans h.depth,λg hg=>?_,h.keeps.dz S.keeps,jQ h.own S.keeps h.ne,by omega,h.lp,λg hg e=>?_⟩,pj⟩
 . rcases pj g hg with q|q
   . exact h.row g q
   . exact .inr (by omega)
 . rcases pj g e with q|q
   . exact h.apart g hg q
   . have:=(h.own.lt g hg).2
     omega
theorem fP.below {w wr w1:World}{p:Nat}{x x':cB}{m0 m':Mode}{l':List Tok}{e:TypeId}{size:Nat}{v:Value}{n:Nat}{xs:List Value}(h:fP w wr p x x' m0 m' l' e size v n xs)(hb:Below wr.heap.size wr w1):fP w w1 p x x' m0 m' l' e size v n xs:=
 ⟨h.bN.below hb,h.depth,h.row,h.keeps.dz (aQ.cQ hb),jQ h.own (aQ.vU hb) (λg hg=>(h.own.lt g hg).2),h.few,h.lp,h.apart⟩
theorem fP.put {w wr:World}{p:Nat}{x x':cB}{m0 m':Mode}{l':List Tok}{e:TypeId}{size:Nat}{v:Value}{n:Nat}{xs:List Value}(h:fP w wr p x x' m0 m' l' e size v n xs){q:Nat}(hq:w.heap.size<=q)(vq:v.ownBlock≠some q)(xq:x'.v.ownBlock≠some q)(i:Nat)(u:Value):fP w (wr.setCell ⟨q,i,none⟩ u) p x x' m0 m' l' e size v n xs:=by
 have hlp:=h.lp;refine ⟨h.bN.other (by omega) xq i u,h.depth,h.row,h.keeps.setCell (p:=⟨q,i,none⟩) (λe=>by have:=e.2;simp at this;omega) u,h.own.kept (grownBy_setCell wr ⟨q,i,none⟩ u) (.inr vq),h.few,h.lp,h.apart⟩
theorem qa {w1:World}{r:Nat}{a b c d:Value}{t:TypeId}(h:w1.heap[r]?=some (.cells #[a,b,c,d] t (0,0))):w1.cell? ⟨r,0,none⟩=some a/\w1.cell? ⟨r,1,none⟩=some b/\w1.cell? ⟨r,2,none⟩=some c/\w1.cell? ⟨r,3,none⟩=some d:=by
 simp [World.cell?,h]
structure zy (w wr:World)(p:Nat)(x x':cB)(m0 m':Mode)(l':List Tok)(q pl:Nat)(nm:Nm)(v:Value)(vs:List Nat):Prop where
 ui:fP w wr p x x' m0 m' l' 145 1 v vs.length (vs.map kZ)
 dV:wr.heap[q]?=some (.cells #[.int .i64 pl,.string nm.1,.int .i64 nm.2,v] 109 (0,0))
 hq:w.heap.size<=q
 vq:v.ownBlock≠some q
 xq:x'.v.ownBlock≠some q
section
variable {w wr w1:World} {p:Nat} {x x':cB} {m0 m' m1:Mode} {l':List Tok} {q pl:Nat} {nm:Nm} {v:Value} {vs:List Nat}
theorem zy.pq (h:zy w wr p x x' m0 m' l' q pl nm v vs):q≠p:=by
 have:=h.ui.lp;have:=h.hq;omega
theorem zy.call (h:zy w wr p x x' m0 m' l' q pl nm v vs)(S:bI wr w1 p x' m1)(hf:m1.len<=m'.len):∃x1 l1,zy w w1 p x x1 m0 m1 l1 q pl nm v vs:=by
 obtain ⟨x1,l1,L1,pj⟩:=h.ui.ait S hf;have BA:q<wr.heap.size:=fK h.dV;refine ⟨x1,l1,L1,mP.block S h.dV h.pq,h.hq,h.vq,λe=>?_⟩;rcases pj q e with k|k
 . exact h.xq k
 . omega
theorem zy.below (h:zy w wr p x x' m0 m' l' q pl nm v vs)(hb:Below wr.heap.size wr w1):zy w w1 p x x' m0 m' l' q pl nm v vs:=⟨h.ui.below hb,(hb.block q (fK h.dV)).trans h.dV,h.hq,h.vq,h.xq⟩
end
theorem zy.more {w w3 w5:World}{p:Nat}{x x3:cB}{m0 m3:Mode}{l3:List Tok}{q pl:Nat}{nm:Nm}{va:Option Addr}{vc:Nat}{vs:List Nat}{a:Nat}{o:Obj}{g cap:Nat}
 (h:zy w w3 p x x3 m0 m3 l3 q pl nm (.slice va vs.length vc) vs) (br:w5.ownsRow w.heap.size 145 1 (.slice (some ⟨g,0,none⟩) (vs.length+1) cap) (vs.length+1) (vs.map kZ++[kZ a])) (hg:(w3.alloc o).grownBy w5 (Value.slice va vs.length vc).ownBlock)
 (hb:(Value.slice va vs.length vc).ownBlock=some g\/g=(w3.alloc o).heap.size) (hf:vs.length+1+m3.len<=m0.len+1) :
 zy w (w5.setCell ⟨q,3,none⟩ (.slice (some ⟨g,0,none⟩) (vs.length+1) cap)) p x x3 m0 m3 l3 q pl nm (.slice (some ⟨g,0,none⟩) (vs.length+1) cap) (vs++[a])/\w5.heap[q]?=some (.cells #[.int .i64 pl,.string nm.1,.int .i64 nm.2,.slice va vs.length vc] 109 (0,0)):=by
 have BA:q<w3.heap.size:=fK h.dV;have kd:(w3.alloc o).heap.size=w3.heap.size+1:=by simp
 have Cm:(Value.slice va vs.length vc).ownBlock=some g\/(w3.alloc o).heap.size<=g:=hb.imp id (λe=>by omega);have L5:=h.ui.app br hg Cm hf;have hgq:g≠q:=by
  rcases hb with hb|hb
  . intro e;exact h.vq (by rw [hb,e])
  . omega
 have vq':(Value.slice (some ⟨g,0,none⟩) (vs.length+1) cap).ownBlock≠some q:=λe=>hgq (aS e);have bW:=(hg.block q (by omega) (λe=>h.vq e.symm)).trans ((bA _ _ _ BA).trans h.dV);have L6:=L5.put h.hq vq' h.xq 3 (.slice (some ⟨g,0,none⟩) (vs.length+1) cap);exact ⟨⟨by rw [au,fB];exact L6,aO _ _ 3 _ _ _ bW,h.hq,vq',h.xq⟩,bW⟩
theorem Tryz.P0:(Tryz.prog.info? 145).map (λi=>(i.zero,i.size,i.bytes))=some (some (.agg #[.int .i64 0]),1,8):=by kernel_rfl
theorem Xj {w:World}{p:Nat}{x:cB}{m:Mode}{l:List Tok}(h:cO w p x m l)(ho:dK w)(hp:12<=p)(hd:x.depth=0)(pl:Nat)(f0:gV):Calls Tryz.prog 60 #[.pointer (some ⟨p,0,none⟩),.int .i64 pl] w λr w'=>
 ∃v ss,r=.returned (.iface 109 (.agg #[.int .i64 pl,.string (bn m.tk),.int .i64 m.place,v]))/\bI w w' p x (eC m.name.2.len [f0] m.name.2).2/\w'.ownsRow w.heap.size 145 1 v ss.length (ss.map λs:gV=>kZ s.pl)/\(eC m.name.2.len [f0] m.name.2).1=f0::ss:=by
 obtain ⟨i0,hi,jS,jD,jv⟩:=uK Tryz.P0;have OU:=h.Pu;have HA:=hide (PG.start h);have eB:=h.bN.lt;have HO:=hide ho;clear h ho;go_enter Tryz.func60,Tryz.ntmps60;go_wp2_with fail;refine (jk (ae HA).bN).mono ?_;rintro r w1 ⟨rfl,S1⟩;have Ip:=cP m;obtain ⟨x1,l1,A1⟩:=(ae HA).call S1;have bL:Below w1.heap.size w1 (w1.alloc (.cells #[.int .i64 pl,.string (bn m.tk),.int .i64 m.place,.slice none 0 0] 109)):=(ag _ _).alloc (af _) _;have Le:=A1.keeps.size;have hQ0:zy w (w1.alloc (.cells #[.int .i64 pl,.string (bn m.tk),.int .i64 m.place,.slice none 0 0] 109)) p x x1 m m.name.2 l1 w1.heap.size pl (bn m.tk,m.place) (.slice none 0 0) []:=
  ⟨⟨A1.bN.below bL,A1.depth,A1.row,A1.keeps.dz (aQ.cQ bL),⟨by simp,.inl ⟨rfl,rfl⟩⟩,by simp;omega,eB,λg hg=>by simp [Value.ownBlock] at hg⟩,ai w1 _,Le,by simp [Value.ownBlock],λe=>by have:=(A1.bN.own.lt _ e).2;omega⟩
 have HQ0:=hide hQ0;clear S1 A1 bL hQ0;go_wp2_with fail;go_loopw [] (λwr=>∃(x':cB) (m':Mode) (l':List Tok) (v:Value) (ss:List gV) (fuel:Nat),Hid (zy w wr p x x' m m' l' w1.heap.size pl (bn m.tk,m.place) v (ss.map (·.pl)))/\m'.len<=fuel/\Hid (eC fuel (f0::ss) m'=eC m.name.2.len [f0] m.name.2)) (λwr=>MD wr p)
 case atStart=>exact ⟨x1,_,l1,_,[],_,HQ0,af _,hide rfl⟩
 case round=>
  obtain ⟨x',m',l',v,ss,fuel,HL,I7,Rb⟩:=hrel;have VY:=aeF (ae HL).ui.bN.xF;have UE:=hide (ae HL).ui.bN.left;obtain ⟨vs,hvs⟩:∃vs,vs=ss.map (·.pl):=⟨_,rfl⟩;rw [<- hvs] at HL;have HVS:=hide hvs;obtain ⟨va,vc,hv⟩:=kI (ae HL).ui.own;subst hv;clear hvs;by_cases hc:aB m'.tk=14
  . have ic:m'.is EK=true:=by rw [VY];simpa using hc
    obtain ⟨pJ,hlen⟩:=(ae HL).ui.bN.goes ic;obtain ⟨f,rfl⟩:∃f,fuel=f+1:=⟨fuel - 1,by omega⟩;have o8:=hide (show eC f (f0::(ss++[(dh m'.next).1])) (dh m'.next).2=eC m.name.2.len [f0] m.name.2 from KO (ae Rb) ic);have anO:=Jo m'.next;have DW:=(ae HL).ui.few;have hfu:(dh m'.next).2.len<=f:=by omega
    have HT:=hide (show Calls Tryz.prog 81 #[.pointer (some ⟨p,0,none⟩),.int .i64 14] wr λr w'=>r=.returned (.bool true)/\bI wr w' p x' m'.next from by
     refine (ji (ae HL).ui.bN 14).mono ?_;rintro r w' ⟨rfl,S⟩;rw [aH hc] at S;exact ⟨by simp [hc],S⟩)
    clear hc ic pJ VY;go_wp2_with fail;refine (ae HT).mono ?_;rintro r w2 ⟨rfl,S2⟩;obtain ⟨x2,l2,L2⟩:=(ae HL).call S2 (by omega);have ke:dK w2.drew:=dK.keep (ae HO) (L2.below (aJ (ag w2.heap.size w2))).ui.keeps hp eB;have c3:w2.cell? ⟨w1.heap.size,3,none⟩=some (.slice va vs.length vc):=(qa L2.dV).2.2.2;have hLd:=L2.below (aJ (ag w2.heap.size w2));have HC:=hide (Xi hLd.ui.bN ke hp (by rw [hLd.ui.depth];exact hd));have LV:=hide (λw4 (S4:bI w2.drew w4 p x2 (dh m'.next).2)=>hLd.call S4 anO);have nQ:=hLd.ui.keeps.size;have sU:=hide (λw4 (S4:bI w2.drew w4 p x2 (dh m'.next).2)=>(show w.heap.size<=w4.heap.size from aw nQ S4.keeps.size));clear S2 L2 hLd ke HT;go_wp2_with fail;go_region_law (first
     | (refine iV rfl 82 _ _ rfl Tryz.call82 #[.pointer (some ⟨p,0,none⟩)] (by first|(simp [Act.eval];done)|(simp [Act.eval,Act.put];done)|rfl) _ (ae HC) ?_;rintro r w4 ⟨rfl,S4⟩;refine ⟨_,rfl,?_⟩;obtain ⟨x4,l4,Q4⟩:=ae LV w4 S4;have u3:w4.cell? ⟨w1.heap.size,3,none⟩=some (.slice va vs.length vc):=(qa Q4.dV).2.2.2;have u3a:(w4.alloc (.cells #[.int .i64 m'.next.place] 145)).cell? ⟨w1.heap.size,3,none⟩=some (.slice va vs.length vc):=(qa ((bA _ _ _ (fK Q4.dV)).trans Q4.dV)).2.2.2;have IE:=hide (Q4.ui.own.alloc (.cells #[.int .i64 m'.next.place] 145));have Gv:=hide (World.news_of_block (ai w4 (.cells #[.int .i64 m'.next.place] 145)));have HZ4:Hid ((w4.alloc (.cells #[.int .i64 m'.next.place] 145)).heap.size=w4.heap.size+1):=hide (by simp);have hz4:=ae sU w4 S4;have HQ4:=hide Q4;clear S4 Q4)
     | (refine step_append_lies _ rfl (.tmp 13) (.tmp 16) 107 rfl w.heap.size 145 i0 _ 1 8 Tryz.underlying107 hi jS jD jv rfl (by decide) _ _ _ (by simp [Act.eval]) (ae IE) ⟨w4.heap.size,0,none⟩ 1 1 [kZ m'.next.place] (by simp [Act.eval]) rfl (ae Gv) (by simp [kZ,Value.oneCell']) (by decide) (by unfold maxLen;omega) (by omega) (by rw [ae HZ4];omega) (w4.heap.size+1) (ae HZ4) ?_;intro g gcap w5 br bE bW _;obtain ⟨hQ5,vz⟩:=zy.more (a:=m'.next.place) (ae HQ4) br bE (bW.imp id (λe=>e.trans (ae HZ4).symm)) (by omega);have d3:=(qa vz).2.2.2;have fz:=aK vz 3;have HQ5:=hide hQ5;clear br bE bW hQ5 vz))
    all_goals
     (try go_wp2_with fail)
     have HQ6:Hid (zy w (w5.setCell ⟨w1.heap.size,3,none⟩ (.slice (some ⟨g,0,none⟩) (vs.length+1) gcap)) p x x4 m (dh m'.next).2 l4 w1.heap.size pl (bn m.tk,m.place) (.slice (some ⟨g,0,none⟩) (vs.length+1) gcap) ((ss++[(dh m'.next).1]).map (·.pl))):=hide (by rw [fB,<- ae HVS];simp only [List.map_cons,List.map_nil];rw [Xf];exact ae HQ5);go_roundw
     case rel=>exact ⟨x4,_,l4,_,_,_,HQ6,hfu,o8⟩
     case measure=>rw [(ae HQ6).ui.bN.left,ae UE];omega
  . have ic:m'.is EK=false:=by rw [VY];simpa using hc
    have jZ:(f0::ss,m')=eC m.name.2.len [f0] m.name.2:=(KP ic).symm.trans (ae Rb);have HF:=hide jZ;have HT:=hide (show Calls Tryz.prog 81 #[.pointer (some ⟨p,0,none⟩),.int .i64 14] wr λr w'=>r=.returned (.bool false)/\bI wr w' p x' m' from by
     refine (ji (ae HL).ui.bN 14).mono ?_;rintro r w' ⟨rfl,S⟩;rw [aA hc] at S;exact ⟨by simp [hc],S⟩)
    clear hc ic VY jZ;go_wp2_with fail;refine (ae HT).mono ?_;rintro r w2 ⟨rfl,S2⟩;obtain ⟨x2,l2,L2⟩:=(ae HL).call S2 (af _);obtain ⟨c0,c1,c2,c3⟩:=qa L2.dV;have r6:=hide L2;clear S2 L2;go_wp2_with fail;go_ret;refine ⟨_,ss,rfl,?_,?_,?_⟩
    . rw [<- ae HF];exact (ae r6).ui.step
    . have:=(ae r6).ui.own
      rw [ae HVS] at this;rw [aW,jH] at this;rw [ae HVS,aW];exact this
    . rw [<- ae HF]
def Each {α β:Type}(P:α->β->Prop):List α->List β->Prop
 |[],[]=>True
 |a::u,b::v=>P a b/\Each P u v
 |_,_=>False
theorem Each.mono {α β:Type}{P Q:α->β->Prop}:∀{u:List α} {v:List β},Each P u v->(∀a∈u,∀b,P a b->Q a b)->Each Q u v
 |[],[],_,_=>trivial
 |_::_,_::_,h,k=>⟨k _ (by simp) _ h.1,Each.mono h.2 (λa ha b=>k a (dY _ ha) b)⟩
 |[],_::_,h,_=>absurd h (λh=>h)
 |_::_,[],h,_=>absurd h (λh=>h)
theorem Each.snoc {α β:Type}{P:α->β->Prop}{a:α}{b:β}:∀{u:List α} {v:List β},Each P u v->P a b->Each P (u++[a]) (v++[b])
 |[],[],_,Iw=>⟨Iw,trivial⟩
 |_::_,_::_,h,Iw=>⟨h.1,Each.snoc h.2 Iw⟩
 |[],_::_,h,_=>absurd h (λh=>h)
 |_::_,[],h,_=>absurd h (λh=>h)
theorem Each.len {α β:Type}{P:α->β->Prop}:∀{u:List α} {v:List β},Each P u v->u.length=v.length
 |[],[],_=>rfl
 |_::_,_::_,h=>by simp [Each.len h.2]
 |[],_::_,h=>absurd h (λh=>h)
 |_::_,[],h=>absurd h (λh=>h)
def Dt (a:Nat×Value):List Value:=[.int .i64 a.1,a.2]
def tR (l:List (Nat×Value)):List Value:=l.flatMap Dt
theorem P4 (l:List (Nat×Value))(a:Nat×Value):tR (l++[a])=tR l++Dt a:=by simp [tR]
theorem xM {w w1 w2:World}{p base:Nat}{x1:cB}{m2:Mode}{t:TypeId}{size:Nat}{v:Value}{n:Nat}{xs:List Value}(h:w1.ownsRow base t size v n xs)(S:bI w1 w2 p x1 m2)(hb:w.heap.size<=base)(hp:p<w.heap.size):w2.ownsRow base t size v n xs:=
 jQ h S.keeps (λg hg=>by
  have:=h.lt g hg;exact ⟨by omega,this.2⟩)
theorem Jq {w1 w2:World}{base:Nat}{t:TypeId}{size:Nat}{v:Value}{n:Nat}{xs:List Value}(h:w1.ownsRow base t size v n xs)(hb:∀g,v.ownBlock=some g->w2.heap[g]?=w1.heap[g]?)(_hs:w1.heap.size<=w2.heap.size):w2.ownsRow base t size v n xs:=by
 refine ⟨h.1,?_⟩;rcases h.2 with h2|⟨q,cp,cur,hv,hq,hc,r⟩
 . exact .inl h2
 . exact .inr ⟨q,cp,cur,hv,hq,(hb q (by rw [hv];rfl)).trans hc,r⟩
theorem Jr {α:Type}{one:Mode->α×Mode}(h:∀m,(one m).2.len<=m.len){m:Mode}(ha:(cC one m).2.alive):m.alive:=by
 have key:∀n l m,(fm one n l m).2.len<=m.len:=by
  intro n
  induction n with
  |zero=>exact λl m=>af _
  |succ n ih=>
    intro l m;unfold fm;split
    . exact aw (ih _ _) (aw (h _) bG)
    . exact af _
 exact ig.mpr (aw (ig.mp ha) (aw (key _ _ _) (h m)))
theorem Js {m:Mode}(h:(nR m).2.alive):m.alive:=fL.back (fL.expr (BO 8)) h
def pM (v:Value):Prop:=v=.nilIface\/∃t u,v=.iface t u
section
variable {wr w3:World} {base:Nat} {vs:List Value} {L:List (List aL)}
theorem oH.OX {g0 n cap:Nat}(h:oH wr base (.slice (some ⟨g0,0,none⟩) n cap) vs L)(hn:L.length=n){i:Nat}{u:Value}{a:List aL}{c:aL}(hu:vs[i]?=some u)(ha:L[i]?=some a){g gcap:Nat}{o:Obj}
 (br:w3.ownsRow base 214 3 (.slice (some ⟨g,0,none⟩) (a.length+1) gcap) (a.length+1) (bw a++nw c)) (hg:(wr.alloc o).drew.grownBy w3 u.ownBlock) (hb:u.ownBlock=some g\/g=wr.heap.size+1) :
 oH (w3.setCell ⟨g0,i,none⟩ (.slice (some ⟨g,0,none⟩) (a.length+1) gcap)) base (.slice (some ⟨g0,0,none⟩) n cap) (vs.set i (.slice (some ⟨g,0,none⟩) (a.length+1) gcap)) (L.set i (a++[c])):=by
 have hi:i<n:=by rw [<- hn];exact (ak.mp ha).1
 have kX:Below wr.heap.size wr (wr.alloc o).drew:=aJ ((ag _ _).alloc (af _) _);have gC:=du h.row kX;have IG:=(h.row.lt g0 rfl).2;have tu:g≠g0:=by
  rcases hb with e|e
  . intro e2;exact h.off i u g hu e (by rw [e2];rfl)
  . omega
 have zR:∀j x,j≠i->vs[j]?=some x->x.ownBlock≠some g:=by
  intro j x hj hx e2;rcases hb with e|e
  . exact h.each.apart i j u x g (λe=>hj e.symm) hu hx e e2
  . have:=(h.each.lt hx e2).2;omega
 have vL:=dJ gC hg (λk hk e=>h.off i u k hu hk (by simpa using e));rw [hn] at vL;have iP:=(vL.stored i (.slice (some ⟨g,0,none⟩) (a.length+1) gcap)).1;have Q8:=grownBy_setCell w3 ⟨g0,i,none⟩ (.slice (some ⟨g,0,none⟩) (a.length+1) gcap);have gS:w3.ownsRow base 214 3 (.slice (some ⟨g,0,none⟩) (a.length+1) gcap) (a++[c]).length (bw (a++[c])):=by
  have e:bw (a++[c])=bw a++nw c:=by simp [bw]
  rw [e,au];exact br
 refine ⟨by rw [iz,hn];exact iP,?_,λj x m h1 h2=>?_⟩
 . exact (h.each.below kX).set (dJ gS Q8 (λk hk e=>by cases hk;simp [Value.ownBlock] at e;exact tu e)) (λj x y hj h1 h2=>dJ (dJ ((h.each.below kX).own j x y h1 h2) hg (λk hk e=>h.each.apart i j u x k (λe=>hj e.symm) hu h1 hk e)) Q8 (λk hk e=>by cases hk;exact h.off j x g0 h1 e rfl)) (λj x m hj h1 hm=>by simp [Value.ownBlock] at hm;subst hm;exact zR j x hj h1)
 . rw [bq] at h1
   split at h1
   . split at h1
     . cases h1;simp [Value.ownBlock] at h2;subst h2;simp [Value.ownBlock];exact λe=>tu e.symm
     . cases h1
   . exact h.off j x m h1 h2
theorem oH.seen {g0 n cap:Nat}(h:oH wr base (.slice (some ⟨g0,0,none⟩) n cap) vs L)(hn:L.length=n){i:Nat}(hi:i<n){u:Value}(hu:vs[i]?=some u){o:Obj}(hg:(wr.alloc o).drew.grownBy w3 u.ownBlock):(∃x,w3.cell? ⟨g0,i,none⟩=some x)/\w3.frozen? ⟨g0,i,none⟩=false:=by
 have kX:Below wr.heap.size wr (wr.alloc o).drew:=aJ ((ag _ _).alloc (af _) _);have vL:=dJ (du h.row kX) hg (λk hk e=>h.off i u k hu hk (by simpa using e));rw [hn] at vL;refine ⟨?_,vL.frozenAt i⟩;rw [vL.cellAt i (by omega)];exact ⟨_,ah (by have:=vL.1;omega)⟩
end
def gF (n:Nat)(R:List (List aL))(i j:Nat):List (List aL):=(List.range n).map λk=>if k<i then R.map (λr=>r.getD k eW) else if k=i then (R.take j).map (λr=>r.getD k eW) else []
theorem AV (n:Nat)(R:List (List aL))(i j:Nat):(gF n R i j).length=n:=by simp [gF]
theorem CT {n:Nat}{R:List (List aL)}{i j:Nat}(hi:i<n):(gF n R i j)[i]?=some ((R.take j).map λr=>r.getD i eW):=by
 unfold gF;rw [a7,jB hi];simp
theorem Hy (n:Nat)(R:List (List aL)):gF n R 0 0=List.replicate n []:=by
 apply cX;intro k;unfold gF;by_cases hk:k<n
 . rw [a7,jB hk,cK,aH hk]
   simp
 . rw [bp (by simp;omega),bp (by simp;omega)]
theorem Hz (n:Nat)(R:List (List aL))(i:Nat):gF n R i R.length=gF n R (i+1) 0:=by
 unfold gF;apply ik;intro k hk;by_cases h1:k<i
 . simp [h1,show k<i+1 by omega]
 . by_cases h2:k=i
   . simp [h2,List.take_length]
   . have h3:¬k<i+1:=by omega
     by_cases h4:k=i+1
     . rw [aA h1,aA h2,aA h3,aH h4];simp
     . rw [aA h1,aA h2,aA h3,aA h4]
theorem KR (n:Nat)(R:List (List aL)):gF n R n 0=bX n R:=by
 unfold gF bX;apply ik;intro k hk;simp [List.mem_range.mp hk]
theorem KS {n:Nat}{R:List (List aL)}{i j:Nat}{row:List aL}(hi:i<n)(hr:R[j]?=some row):(gF n R i j).set i ((R.take j).map (λr=>r.getD i eW)++[row.getD i eW])=gF n R i (j+1):=by
 apply cX;intro k;rw [bq,AV];by_cases hk:k=i
 . subst hk
   rw [aH rfl,aH hi,CT hi,dW,hr];simp
 . rw [aA (λe=>hk e.symm)]
   unfold gF;by_cases yG:k<n
   . rw [a7,a7,jB yG]
     simp [hk]
   . rw [bp (by simp;omega),bp (by simp;omega)]
theorem Xk (c:aL):∀u∈nw c,u.oneCell'=true:=by
 intro u hu;simp [nw] at hu;rcases hu with rfl|rfl|rfl<;>rfl
theorem Each.get {α β:Type}{P:α->β->Prop}:∀{u:List α} {v:List β} {j:Nat} {b:β},Each P u v->v[j]?=some b->∃a,u[j]?=some a/\P a b
 |[],[],j,b,_,h=>by simp at h
 |a::u,b'::v,0,b,h,hb=>by simp at hb;subst hb;exact ⟨a,rfl,h.1⟩
 |a::u,b'::v,j+1,b,h,hb=>by
   obtain ⟨x,h1,h2⟩:=Each.get (j:=j) h.2 (by simpa using hb);exact ⟨x,by simpa using h1,h2⟩
 |[],_::_,_,_,h,_=>absurd h (λh=>h)
 |_::_,[],_,_,h,_=>absurd h (λh=>h)
theorem Xl {w:World}{base g n:Nat}(h:w.ownsRow base 198 1 (.slice (some ⟨g,0,none⟩) n n) n (List.replicate n pF))(R:List (List aL)):oH w base (.slice (some ⟨g,0,none⟩) n n) (List.replicate n pF) (gF n R 0 0):=by
 have E3:∀(i:Nat) (u:Value),(List.replicate n pF)[i]?=some u->u=pF:=λi u hu=>(lJ.mp (aG hu)).2;rw [Hy];refine ⟨by rw [gb];exact h,⟨by simp,λi u c h1 h2=>?_,λi j u u' g _ h1 _ hg=>?_⟩,λi u g h1 hg=>?_⟩
 . rw [E3 i u h1,(lJ.mp (aG h2)).2]
   exact ⟨rfl,.inl ⟨rfl,rfl⟩⟩
 . rw [E3 i u h1] at hg;cases hg
 . rw [E3 i u h1] at hg;cases hg
theorem Ng {w1:World}{r:Nat}{a b:Value}{t:TypeId}(h:w1.heap[r]?=some (.cells #[a,b] t (0,0))):w1.cell? ⟨r,0,none⟩=some a/\w1.cell? ⟨r,1,none⟩=some b:=by simp [World.cell?,h]
def TQ (r:oz):List aL:=r.vals.map λv=>⟨v.null,v.n,v.s⟩
theorem H7 {w:World}{t:Nm}{v:Value}{vr:List (Nat×Value)}{rows:List oz}{n:Nat}(hv:bF w 2 v vr.length (tR vr))(hr:Each (λa r=>a.1=r.pl/\bF w 5 a.2 r.vals.length (lk (r.vals.map tP))) vr rows)(hl:∀r∈rows,r.vals.length=n)(hn:0<n)(n5:n<=5)(anP:rows.length<=302) :
 Calls Tryz.prog 226 #[.agg #[.string t.1,.int .i64 t.2,v],.int .i64 n] w λe w'=>∃bv vs,e=.returned bv/\oH w' (w.heap.size+1) bv vs (bX n (rows.map TQ))/\Below w.heap.size w w':=by
 obtain ⟨i0,yv,jS,jD,jv⟩:=lE Tryz.pG;obtain ⟨va,cJ,rfl⟩:=bF.slice hv;obtain ⟨W,hW⟩:∃W,W=w.alloc (.cells #[.string t.1,.int .i64 t.2,.slice va vr.length cJ] 174):=⟨_,rfl⟩;have lK:Below w.heap.size w W:=by rw [hW];exact (ag _ _).alloc (af _) _
 have za:W.heap.size=w.heap.size+1:=by rw [hW];simp
 have fN:W.heap[w.heap.size]?=some (.cells #[.string t.1,.int .i64 t.2,.slice va vr.length cJ] 174 (0,0)):=by rw [hW];exact ai w _
 have G7:vr.length=rows.length:=hr.len;have HB:=hide (λwr (h:Below W.heap.size W wr)=>(show Below w.heap.size w wr/\wr.heap[w.heap.size]?=some (.cells #[.string t.1,.int .i64 t.2,.slice va vr.length cJ] 174 (0,0))/\bF wr 2 (.slice va vr.length cJ) vr.length (tR vr)/\Each (λa r=>a.1=r.pl/\bF wr 5 a.2 r.vals.length (lk (r.vals.map tP))) vr rows from by
  have h1:=lK.trans (h.mono (by omega));exact ⟨h1,(h.block _ (by omega)).trans fN,bF.below hv h1 (af _),hr.mono (λa _ r h2=>⟨h2.1,bF.below h2.2 h1 (af _)⟩)⟩))
 have HL:=hide hl;have YV:=hide G7;have HW:=hide hW;have sU:=hide za;have hR:(rows.map TQ).length=rows.length:=aW ..;obtain ⟨R,hRe⟩:∃R,R=rows.map TQ:=⟨_,rfl⟩;rw [<- hRe] at hR;have HRE:=hide hRe;have HRL:=hide hR;rw [<- hRe];clear hW za hv hr hl lK fN G7 hR hRe;go_enter Tryz.func226,Tryz.ntmps226;go_wp2_with (at_make;(try rw [<- ae HW]);refine dw _ rfl _ _ 148 rfl W.heap.size 198 i0 _ 1 Tryz.underlying148 yv jS jD _ _ _ _ n rfl rfl rfl rfl (by rw [jv];omega) (by unfold maxLen;omega) (by simp) ?_;intro w1 br bE);rw [kK,qQ] at br;have HO0:=hide (Xl br R);have wE:Hid (Below W.heap.size W w1):=hide ((ag _ _).grown bE (af _) (by simp));obtain ⟨j0,hj0,jz0,jz1,jz2⟩:=lE Tryz.BD;clear br bE yv jS jD jv;go_loopw [13] (λc wr=>∃(i:Nat) (vs:List Value),i<=n/\c=.int .i64 i/\Hid (oH wr W.heap.size (.slice (some ⟨W.heap.size,0,none⟩) n n) vs (gF n R i 0))/\Hid (Below W.heap.size W wr)) (λc _=>n - (intOf c).toNat)
 case atStart=>exact ⟨0,_,aN _,rfl,HO0,wE⟩
 case round=>
  obtain ⟨i,vs,hi,rfl,K7,qx⟩:=hrel;by_cases cF:i<n
  . have jI:(i:Int)<n:=by omega
    obtain ⟨nG,bL,-,-⟩:=ae HB wr (ae qx);obtain ⟨c0,c1,c2⟩:=aR bL;clear nG bL;go_wp2_with fail;go_loopw [19] (λc wr=>∃(j:Nat) (vs:List Value),j<=rows.length/\c=.int .i64 j/\Hid (oH wr W.heap.size (.slice (some ⟨W.heap.size,0,none⟩) n n) vs (gF n R i j))/\Hid (Below W.heap.size W wr)) (λc _=>rows.length - (intOf c).toNat)
    case atStart=>exact ⟨0,vs,aN _,rfl,K7,qx⟩
    case round=>
     obtain ⟨j,vs2,hj,rfl,HOJ,HBJ⟩:=hrel;obtain ⟨-,-,Ha,her⟩:=ae HB wr (ae HBJ);have G7:=ae YV;by_cases hjt:j<rows.length
     . have am0:(j:Int)<vr.length:=by omega
       obtain ⟨r,WD⟩:∃r,rows[j]?=some r:=⟨_,ah hjt⟩;have Ey:=ae HL r (aG WD);obtain ⟨⟨apl,av⟩,haj,-,hav⟩:=her.get WD;obtain ⟨vg,vo,AW,he,-,hvg,hx⟩:=bF.at Ha (by omega)
       cases he
       have x0:wr.cell? ⟨vg,vo+j*2,none⟩=some (.int .i64 apl):=hx (j*2) _ (dc Dt 2 (λ_=>rfl) vr haj (j:=0) (by decide));have x1:wr.cell? ⟨vg,vo+j*2+1,none⟩=some av:=hx (j*2+1) _ (dc Dt 2 (λ_=>rfl) vr haj (j:=1) (by decide));simp only at hav;obtain ⟨rg,ro,Ad,he,-,V5,hy⟩:=bF.at hav (by omega);subst he;rw [Ey] at x1;obtain ⟨vv,hvi⟩:∃vv,r.vals[i]?=some vv:=⟨_,ah (by omega)⟩;have Cx:(r.vals.map tP)[i]?=some (tP vv):=by rw [a7,hvi];rfl
       obtain ⟨x,hxe⟩:∃x:aL,x=⟨vv.null,vv.n,vv.s⟩:=⟨_,rfl⟩;have y2:wr.cell? ⟨rg,ro+i*5+2,none⟩=some (.bool x.null):=by rw [hxe];exact hy (i*5+2) _ (dc p8 5 (λ_=>rfl) _ Cx (j:=2) (by decide))
       have y3:wr.cell? ⟨rg,ro+i*5+3,none⟩=some (.int .i64 x.n):=by rw [hxe];exact hy (i*5+3) _ (dc p8 5 (λ_=>rfl) _ Cx (j:=3) (by decide))
       have y4:wr.cell? ⟨rg,ro+i*5+4,none⟩=some (.string x.s):=by rw [hxe];exact hy (i*5+4) _ (dc p8 5 (λ_=>rfl) _ Cx (j:=4) (by decide))
       have hRj:R[j]?=some (TQ r):=by rw [ae HRE,a7,WD];rfl
       have hxr:(TQ r).getD i eW=x:=by rw [hxe];unfold TQ;simp [List.getD,hvi]
       have pC:=hide (KS (n:=n) (j:=j) cF hRj);rw [hxr] at pC;obtain ⟨W1,qH⟩:∃W1,W1=wr.alloc (.cells #[.int .i64 apl,.slice (some ⟨rg,ro,none⟩) n Ad] 169):=⟨_,rfl⟩;have ph:Below wr.heap.size wr W1:=by rw [qH];exact (ag _ _).alloc (af _) _
       have nN:W1.heap[wr.heap.size]?=some (.cells #[.int .i64 apl,.slice (some ⟨rg,ro,none⟩) n Ad] 169 (0,0)):=by rw [qH];exact ai wr _
       have hO1:=(ae HOJ).below ph;have ha:(gF n R i j)[i]?=some ((R.take j).map λr=>r.getD i eW):=CT cF;obtain ⟨a,hae⟩:∃a,a=(R.take j).map λr=>r.getD i eW:=⟨_,rfl⟩;rw [<- hae] at ha pC;have pJ:a.length<=302:=by rw [hae,aW,bV];omega
       obtain ⟨u,hu,-⟩:=hO1.each.cells ha;have UQ:=hO1.each.own i u _ hu ha;obtain ⟨ua,td,rfl,-,-⟩:=di UQ;have QP:=AV n R i j;have gC:=hO1.row;rw [QP] at gC;have g1:W1.cell? ⟨W.heap.size,i,none⟩=some (.slice ua a.length td):=(gC.cellAt i (by omega)).trans hu;have hgl:=(gC.lt W.heap.size rfl).2;obtain ⟨k0,k1⟩:=Ng nN;have ZO:=az nN;have aaJ:rg<W1.heap.size:=aF V5 ph.size;have q2:=(ph.cell (p:=⟨rg,ro+i*5+2,none⟩) V5).trans y2;have q3:=(ph.cell (p:=⟨rg,ro+i*5+3,none⟩) V5).trans y3;have q4:=(ph.cell (p:=⟨rg,ro+i*5+4,none⟩) V5).trans y4;have oq:=(ae HBJ).trans (ph.mono (ae HBJ).size);have xD:=hide ((UQ.alloc (.cells #[.bool x.null,.int .i64 x.n,.string x.s] 214 (0,0))).drew);have yU:=hide (World.news_of_block (w:=(W1.alloc (.cells #[.bool x.null,.int .i64 x.n,.string x.s] 214 (0,0))).drew) (B:=W1.heap.size) (ai W1 (.cells #[.bool x.null,.int .i64 x.n,.string x.s] 214 (0,0))));have HZ1:Hid ((W1.alloc (.cells #[.bool x.null,.int .i64 x.n,.string x.s] 214 (0,0))).drew.heap.size=W1.heap.size+1):=hide (by show (W1.heap.push _).size=_;rw [dq]);have OZ:=hide (λ(w3:World) (h2:(W1.alloc (.cells #[.bool x.null,.int .i64 x.n,.string x.s] 214 (0,0))).drew.grownBy w3 (Value.slice ua a.length td).ownBlock)=>hO1.seen QP cF hu h2);have ZI:=hide (λ(g gcap:Nat) (w3:World) (h1:w3.ownsRow W.heap.size 214 3 (.slice (some ⟨g,0,none⟩) (a.length+1) gcap) (a.length+1) (bw a++nw x)) (h2:(W1.alloc (.cells #[.bool x.null,.int .i64 x.n,.string x.s] 214 (0,0))).drew.grownBy w3 (Value.slice ua a.length td).ownBlock) (h3:(Value.slice ua a.length td).ownBlock=some g\/g=W1.heap.size+1)=>(show oH (w3.setCell ⟨W.heap.size,i,none⟩ (.slice (some ⟨g,0,none⟩) (a.length+1) gcap)) W.heap.size (.slice (some ⟨W.heap.size,0,none⟩) n n) (vs2.set i (.slice (some ⟨g,0,none⟩) (a.length+1) gcap)) (gF n R i (j+1))/\Below W.heap.size W (w3.setCell ⟨W.heap.size,i,none⟩ (.slice (some ⟨g,0,none⟩) (a.length+1) gcap)) from by
        have e:=hO1.OX QP hu ha h1 h2 h3;rw [ae pC] at e;exact ⟨e,(((aJ (oq.alloc oq.size _))).grown h2 (by rw [ae HZ1];have:=oq.size;omega) (λk hk=>(UQ.lt k hk).1)).setCell (af _) _⟩))
       have Vo:Hid (a.length+1<=maxLen):=hide (by unfold maxLen;omega);have Q9:Hid ((a.length+1)*32<=140737488355328):=hide (by omega);have IJ:Hid (W.heap.size<=(W1.alloc (.cells #[.bool x.null,.int .i64 x.n,.string x.s] 214 (0,0))).drew.heap.size):=hide (by rw [ae HZ1];have:=oq.size;omega);have xX:=hide qH;clear qH ph nN hO1 ha hae UQ gC hu oq Ha her haj hav hx hy Cx hvi hRj hxr hxe y2 y3 y4 WD QP pC G7;go_wp2_with fail;rw [<- ae xX];clear x0 x1 c0 c1 c2;go_region_law (refine step_append_lies _ rfl (.tmp 28) (.tmp 35) 198 rfl W.heap.size 214 j0 _ 3 32 Tryz.underlying198 hj0 jz0 jz1 jz2 rfl (by decide) (.slice ua a.length td) a.length (bw a) rfl (ae xD) ⟨W1.heap.size,0,none⟩ 1 1 (nw x) rfl rfl (ae yU) (Xk x) (by decide) (ae Vo) (ae Q9) (ae IJ) (W1.heap.size+1) (ae HZ1) ?_;intro g gcap w3 ld ja rV _;obtain ⟨⟨xx,d0⟩,fz⟩:=ae OZ w3 ja;have Ez:=hide ld;have UI:=hide ja;have Bi:=hide rV;clear ld ja rV)
       all_goals
        obtain ⟨hJ3,hL3⟩:=ae ZI _ _ _ (ae Ez) (ae UI) (ae Bi);have HJ3:=hide hJ3;have I8:=hide hL3;clear hJ3 hL3
        (try go_wp2_with fail)
        go_roundw
        case rel=>exact ⟨j+1,_,by omega,by go_num,HJ3,I8⟩
        case measure=>simp [intOf];omega
     . obtain rfl:j=rows.length:=by omega
       have HN:Hid (oH wr W.heap.size (.slice (some ⟨W.heap.size,0,none⟩) n n) vs2 (gF n R (i+1) 0)):=hide (by rw [<- Hz,ae HRL];exact ae HOJ);have hjn:¬((rows.length:Nat):Int)<vr.length:=by omega
       clear Ha her;go_wp2_with fail
       first
       |exact ⟨⟨i+1,vs2,by omega,by go_num,HN,HBJ⟩,by simp [intOf];omega⟩
       | (go_roundw
          case rel=>exact ⟨i+1,vs2,by omega,by go_num,HN,HBJ⟩
          case measure=>simp [intOf];omega)
  . obtain rfl:i=n:=by omega
    have HE:Hid (oH wr (w.heap.size+1) (.slice (some ⟨W.heap.size,0,none⟩) i i) vs (bX i R)):=hide (by rw [<- KR,<- ae sU];exact ae K7);have HLO:=hide (ae HB wr (ae qx)).1;go_wp2_with fail;go_ret;exact ⟨_,vs,rfl,ae HE,ae HLO⟩
theorem XM {w:World}{p:Nat}{x:cB}{m:Mode}{l:List Tok}(h:cO w p x m l)(ho:dK w)(hp:12<=p)(hd:x.depth=0):Calls Tryz.prog 77 #[.pointer (some ⟨p,0,none⟩)] w λr w'=>
 ∃va n vc ls,r=.returned (.agg #[.int .i64 m.place,.slice va n vc])/\bI w w' p x (fW m).2/\w'.ownsRow (w.heap.size+1) 234 5 (.slice va n vc) n (lk ls)/\ls.length=n/\((fW m).2.alive->ls=(fW m).1.vals.map tP):=by
 have HA:=hide (mP.start h (.cells #[.int .i64 0,.slice none 0 0] 169));have eB:=h.bN.lt;have HO:=hide ho;have nx:=xH h;have Jj:=gK (mP.start h (.cells #[.int .i64 0,.slice none 0 0] 169)).bN 11;rw [nx] at Jj;have HM:=hide Jj;clear h ho nx Jj;go_enter Tryz.func77,Tryz.ntmps77;go_wp2_with fail;refine (ae HM).mono ?_;rintro r w1 ⟨rfl,S1⟩;obtain ⟨x1,l1,A1⟩:=(ae HA).call S1;have YD:=hide (mP.block S1 (ai w (.cells #[.int .i64 0,.slice none 0 0] 169)) (by omega));have HL:=hide (Hw A1.bN (dK.keep (ae HO) A1.keeps hp eB) hp (by rw [A1.depth];exact hd));have hfp:∀w,(Instr.field 102 (.agg #[.int .i64 (aB m.tk),.int .i64 m.place,.string (bn m.tk),.int .i64 (dt m.tk)]) 1).run Tryz.prog w=.ok (.int .i64 m.place) w:=λw=>CP _ _ _ _ w;have arn:=A1.big;have qp:=hide A1;clear S1 A1;unfold iZ;go_wp2_with fail;refine (ae HL).mono ?_;rintro r w2 ⟨v,ls,rfl,S2,br,hls⟩;have UD:=PL (m.take cI);rw [UD] at S2 hls;obtain ⟨x2,l2,A2⟩:=(ae qp).call S2;have xY:=hide (mP.block S2 (ae YD) (by omega));have HV2:=hide (cL br (show w.heap.size+1<=w1.heap.size by omega));have HLS:=hide hls;have rE:=hide A2;obtain ⟨va,vc,hv⟩:=kI br;obtain ⟨n,hn⟩:∃n,n=ls.length:=⟨_,rfl⟩;rw [<- hn] at hv HV2;have HN:=hide hn;subst hv;clear S2 A2 br hls UD hn;go_wp2_with fail;refine (gK (ae rE).bN 12).mono ?_;rintro r w3 ⟨rfl,S3⟩;rw [oj (ae rE).bN] at S3;obtain ⟨x3,l3,A3⟩:=(ae rE).call S3;have vM:=mP.block S3 (ae xY) (by omega);have hV3:w3.ownsRow (w.heap.size+1) 234 5 (.slice va n vc) n (lk ls):=xM (w:=w) (ae HV2) S3 (by omega) eB;obtain ⟨q0,q1⟩:=hY vM;have z0:=aK vM 0;have z1:=aK vM 1;have HE:=hide (λa b=>(show bI w ((w3.setCell ⟨w.heap.size,0,none⟩ a).setCell ⟨w.heap.size,1,none⟩ b) p x (fW m).2 from ((A3.set 0 a).set 1 b).step));have HV:=hide (λa b=>Jq (w2:=(w3.setCell ⟨w.heap.size,0,none⟩ a).setCell ⟨w.heap.size,1,none⟩ b) hV3 (λg hg=>by
  have RM:g≠w.heap.size:=by have:=(hV3.lt g hg).1;omega
  exact (aD _ _ _ _ RM).trans (aD _ _ _ _ RM)) (by simp [World.setCell]))
 clear S3 A3 vM hV3;unfold iZ;go_wp2_with fail
 (try simp only [Exit.inBlock,Exit.then])
 refine ay (v:=.agg #[.int .i64 m.place,.slice va n vc]) (by simp [results,Tryz.results77,go_sem,q0,q1];try rfl) rfl ?_;exact ⟨va,n,vc,ls,rfl,ae HE _ _,ae HV _ _,(ae HN).symm,λha=>ae HLS (kC ha)⟩
def zB (w:World)(base:Nat)(v:Value)(r:oz):Prop:=w.ownsRow base 234 5 v r.vals.length (lk (r.vals.map tP))
theorem zB.stays {w1 w2:World}{base:Nat}{v:Value}{r:oz}(h:zB w1 base v r)(hb:∀g,v.ownBlock=some g->w2.heap[g]?=w1.heap[g]?):zB w2 base v r:=by
 refine ⟨h.1,?_⟩;rcases h.2 with h2|⟨q,cp,cur,hv,hq,hc,r⟩
 . exact .inl h2
 . exact .inr ⟨q,cp,cur,hv,hq,(hb q (by rw [hv];rfl)).trans hc,r⟩
structure vD (w wr:World)(p:Nat)(x x':cB)(m0 m':Mode)(l':List Tok)(q:Nat)(nm:Nm)(v:Value)(vs:List (Nat×Value))(rs:List oz):Prop where
 ui:fP w wr p x x' m0 m' l' 169 2 v vs.length (tR vs)
 dV:wr.heap[q]?=some (.cells #[.string nm.1,.int .i64 nm.2] 106 (0,0))
 hq:w.heap.size<=q
 vq:v.ownBlock≠some q
 rows:m'.alive->Each (λa r=>a.1=r.pl/\zB wr w.heap.size a.2 r/\∀g,a.2.ownBlock=some g->v.ownBlock≠some g) vs rs
section
variable {w wr w1:World} {p:Nat} {x x':cB} {m0 m' m1:Mode} {l':List Tok} {q:Nat} {nm:Nm} {v:Value} {vs:List (Nat×Value)} {rs:List oz}
theorem vD.call (h:vD w wr p x x' m0 m' l' q nm v vs rs)(S:bI wr w1 p x' m1)(hf:m1.len<=m'.len):∃x1 l1,vD w w1 p x x1 m0 m1 l1 q nm v vs rs:=by
 obtain ⟨x1,l1,L1⟩:=h.ui.call S hf;have hlp:=h.ui.lp;have hhq:=h.hq;refine ⟨x1,l1,L1,mP.block S h.dV (by omega),h.hq,h.vq,λha=>?_⟩;have pJ:m'.alive:=ig.mpr (aw (ig.mp ha) hf);refine (h.rows pJ).mono (λa _ s hs=>⟨hs.1,hs.2.1.stays (λg hg=>?_),hs.2.2⟩);have hi:=nu hs.2.1 g hg;exact S.keeps.block g ⟨by omega,hi.2⟩
theorem vD.below (h:vD w wr p x x' m0 m' l' q nm v vs rs)(hb:Below wr.heap.size wr w1):vD w w1 p x x' m0 m' l' q nm v vs rs:=by
 refine ⟨h.ui.below hb,(hb.block q (fK h.dV)).trans h.dV,h.hq,h.vq,λha=>?_⟩;refine (h.rows ha).mono (λa _ s hs=>⟨hs.1,hs.2.1.stays (λg hg=>?_),hs.2.2⟩);exact hb.block g (nu hs.2.1 g hg).2
end
theorem vD.more {w w3 w5:World}{p:Nat}{x x3:cB}{m0 m3:Mode}{l3:List Tok}{q:Nat}{nm:Nm}{va:Option Addr}{vc:Nat}{vs:List (Nat×Value)}{rs:List oz}{a:Nat×Value}{r:oz}{o:Obj}{g cap:Nat}
 (h:vD w w3 p x x3 m0 m3 l3 q nm (.slice va vs.length vc) vs rs) (br:w5.ownsRow w.heap.size 169 2 (.slice (some ⟨g,0,none⟩) (vs.length+1) cap) (vs.length+1) (tR vs++Dt a)) (hg:(w3.alloc o).grownBy w5 (Value.slice va vs.length vc).ownBlock)
 (hb:(Value.slice va vs.length vc).ownBlock=some g\/(w3.alloc o).heap.size<=g) (hf:vs.length+1+m3.len<=m0.len+1)
 (aoC:m3.alive->a.1=r.pl/\zB w3 w.heap.size a.2 r/\∀k,a.2.ownBlock=some k->(Value.slice va vs.length vc).ownBlock≠some k) :
 vD w w5 p x x3 m0 m3 l3 q nm (.slice (some ⟨g,0,none⟩) (vs.length+1) cap) (vs++[a]) (rs++[r]):=by
 have BA:q<w3.heap.size:=fK h.dV;have kd:(w3.alloc o).heap.size=w3.heap.size+1:=by simp
 have L5:=h.ui.app br hg hb hf;have hgq:g≠q:=by
  rcases hb with hb|hb
  . intro e;exact h.vq (by rw [hb,e])
  . omega
 have vq':(Value.slice (some ⟨g,0,none⟩) (vs.length+1) cap).ownBlock≠some q:=λe=>hgq (aS e);have aja:∀k,k<w3.heap.size->(Value.slice va vs.length vc).ownBlock≠some k->w5.heap[k]?=w3.heap[k]?:=λk hk hn=>(hg.block k (by omega) (λe=>hn e.symm)).trans (bA _ _ _ hk);refine ⟨?_,(aja q BA h.vq).trans h.dV,h.hq,vq',λha=>?_⟩
 . rw [au,P4];exact L5
 . have conv:∀(b:Nat×Value) (t:oz),(b.1=t.pl/\zB w3 w.heap.size b.2 t/\∀k,b.2.ownBlock=some k->(Value.slice va vs.length vc).ownBlock≠some k)->(b.1=t.pl/\zB w5 w.heap.size b.2 t/\∀k,b.2.ownBlock=some k->(Value.slice (some ⟨g,0,none⟩) (vs.length+1) cap).ownBlock≠some k):=by
    intro b t ⟨h1,h2,h3⟩;refine ⟨h1,h2.stays (λk hk=>aja k (nu h2 k hk).2 (h3 k hk)),λk hk e=>?_⟩;have e':g=k:=aS e;have hl:=(nu h2 k hk).2;rcases hb with hb|hb
    . exact h3 k hk (by rw [hb,e'])
    . omega
   have h1:=(h.rows ha).mono (λb _ t hb=>conv b t hb);have h2:=conv _ _ (aoC ha);exact Each.snoc h1 h2
theorem Tryz.Nr:(Tryz.prog.info? 169).map (λi=>(i.zero,i.size,i.bytes))=some (some (.agg #[.int .i64 0,.slice none 0 0]),2,32):=by kernel_rfl
theorem aeV (n:Nat)(va:Option Addr)(k c:Nat):∀u∈Dt (n,.slice va k c),u.oneCell'=true:=by
 intro u hu;simp [Dt] at hu;rcases hu with rfl|rfl<;>rfl
theorem D6 (m:Mode):(fW m).2.len<=(m.take cI).len:=aw (ij _ _) (wY FN _)
theorem Qf {f:Nat}{rs:List oz}{m:Mode}{r:List oz×Mode}(h:jw (f+1) rs m=r)(hb:m.is cI=true):jw f (rs++[(fW m).1]) (fW m).2=r:=by
 rw [<- h]
 conv=>rhs;unfold jw;rw [aH hb]
theorem Qg {f:Nat}{rs:List oz}{m:Mode}(hb:m.is cI=false):jw f rs m=(rs,m):=by
 cases f with
 |zero=>rfl
 |succ f=>unfold jw;rw [aA (by rw [hb];decide)]
theorem aaS {w:World}{p:Nat}{x:cB}{m:Mode}{l:List Tok}(h:cO w p x m l)(ho:dK w)(hp:12<=p)(hd:x.depth=0):Calls Tryz.prog 57 #[.pointer (some ⟨p,0,none⟩)] w λr w'=>
 ∃v vs,r=.returned (.iface 174 (.agg #[.string (bn m.tk),.int .i64 m.place,v]))/\bI w w' p x (jw (fW m.name.2).2.len [(fW m.name.2).1] (fW m.name.2).2).2/\w'.ownsRow w.heap.size 169 2 v vs.length (tR vs)/\
   ((jw (fW m.name.2).2.len [(fW m.name.2).1] (fW m.name.2).2).2.alive->Each (λa r=>a.1=r.pl/\zB w' w.heap.size a.2 r) vs (jw (fW m.name.2).2.len [(fW m.name.2).1] (fW m.name.2).2).1):=by
 obtain ⟨i0,hi,jS,jD,jv⟩:=uK Tryz.Nr;have OU:=h.Pu;have HA:=hide (PG.start h);have eB:=h.bN.lt;have HO:=hide ho;clear h ho;go_enter Tryz.func57,Tryz.ntmps57;go_wp2_with fail;refine (jk (ae HA).bN).mono ?_;rintro r w1 ⟨rfl,S1⟩;have Ip:=cP m;obtain ⟨x1,l1,A1⟩:=(ae HA).call S1;have bL:Below w1.heap.size w1 (w1.alloc (.cells #[.string (bn m.tk),.int .i64 m.place] 106)):=(ag _ _).alloc (af _) _;have A2:=A1.below bL;have Le:=A1.keeps.size;have HR:=hide (XM A2.bN (dK.keep (ae HO) A2.keeps hp eB) hp (by rw [A2.depth];exact hd));have HN:=hide (ai w1 (.cells #[.string (bn m.tk),.int .i64 m.place] 106));have rE:=hide A2;have QR:=A1.lt;clear S1 A1 bL A2;go_wp2_with fail;refine (ae HR).mono ?_;rintro r w2 ⟨va0,n0,vc0,ls0,rfl,S2,Cz,Nn,ajd⟩;have Ey:=aw (D6 m.name.2) (ij m.name.2 cI);obtain ⟨x2,l2,A2⟩:=(ae rE).call S2;have hN2:=mP.block S2 (ae HN) (by omega);have bO:Below w2.heap.size w2 (w2.alloc (.cells #[.int .i64 m.name.2.place,.slice va0 n0 vc0] 169)):=(ag _ _).alloc (af _) _;have nQ:=A2.keeps.size;have BA:=fK hN2;have xG:vD w (w2.alloc (.cells #[.int .i64 m.name.2.place,.slice va0 n0 vc0] 169)) p x x2 m (fW m.name.2).2 l2 w1.heap.size (bn m.tk,m.place) (.slice (some ⟨w2.heap.size,0,none⟩) 1 1) [(m.name.2.place,.slice va0 n0 vc0)] [(fW m.name.2).1]:=by
  refine ⟨⟨A2.bN.below bO,A2.depth,A2.row,A2.keeps.dz (aQ.cQ bO),⟨by simp [tR,Dt],.inr ⟨w2.heap.size,1,#[.int .i64 m.name.2.place,.slice va0 n0 vc0],rfl,nQ,ai w2 _,by simp,by decide,by simp,by simp [tR,Dt]⟩⟩,by simp;omega,eB,λg hg e=>?_⟩,(bO.block w1.heap.size BA).trans hN2,Le,?_,λha=>⟨⟨rfl,?_,λg hg e=>?_⟩,trivial⟩⟩
  . simp [Value.ownBlock] at hg
    have:=(A2.bN.own.lt g e).2;omega
  . simp [Value.ownBlock];omega
  . have he:=ajd ha
    have gC:zB w2 w.heap.size (.slice va0 n0 vc0) (fW m.name.2).1:=by
     unfold zB;have US:(fW m.name.2).1.vals.length=n0:=by rw [<- Nn,he,aW]
     rw [US,<- he];refine cL Cz ?_;simp;omega
    exact gC.stays (λg hg=>bO.block g (nu gC g hg).2)
  . have h1:=(Cz.lt g hg).2
    have h2:w2.heap.size=g:=aS e;omega
 have Rp:=hide xG;clear S2 A2 Cz Nn ajd hN2 bO xG;go_wp2_with fail;go_loopw [4] (λv wr=>∃(x':cB) (m':Mode) (l':List Tok) (vs:List (Nat×Value)) (rs:List oz) (fuel:Nat),Hid (vD w wr p x x' m m' l' w1.heap.size (bn m.tk,m.place) v vs rs)/\m'.len<=fuel/\Hid (jw fuel rs m'=jw (fW m.name.2).2.len [(fW m.name.2).1] (fW m.name.2).2)) (λ_ wr=>MD wr p)
 case atStart=>exact ⟨x2,_,l2,_,_,_,Rp,af _,hide rfl⟩
 case round=>
  obtain ⟨x',m',l',vs,rs,fuel,HL,I7,Rb⟩:=hrel;have hoi:=RE (ae HL).ui.bN.xF;have UE:=hide (ae HL).ui.bN.left;obtain ⟨va,vc,hv⟩:=kI (ae HL).ui.own;subst hv;have BF:Below wr.heap.size wr (wr.alloc (.cells #[.int .i64 11] 100)):=(ag _ _).alloc (af _) _;have L1:=(ae HL).below BF;have hI:=lh L1.ui.bN [11] wr.heap.size 1 (wV wr 11) (by simp) (by simp);by_cases hc:aB m'.tk=11
  . have ic:m'.is cI=true:=by rw [hoi];simpa using hc
    obtain ⟨pJ,hlen⟩:=(ae HL).ui.bN.goes ic;obtain ⟨f,rfl⟩:∃f,fuel=f+1:=⟨fuel - 1,by omega⟩;have o8:=hide (Qf (ae Rb) ic);have nS:m'.take cI=m'.next:=by unfold Mode.take;rw [aH ic]
    have hlr:=D6 m';rw [nS] at hlr;have DW:=(ae HL).ui.few;have XO:decide (aB m'.tk∈[11])=true:=by simpa using hc
    rw [XO] at hI;have HI:=hide hI;have HL1:=hide L1;clear hc ic pJ hoi XO nS hI L1 BF;go_wp2_with fail;refine (ae HI).mono ?_;rintro r w2' ⟨rfl,XP⟩;have L2:=(ae HL1).below XP;have xY:=hide (XM L2.ui.bN (dK.keep (ae HO) L2.ui.keeps hp eB) hp (by rw [L2.ui.depth];exact hd));have r6:=hide L2;clear XP L2;go_wp2_with fail;refine (ae xY).mono ?_;rintro r w3 ⟨va3,n3,vc3,ls3,rfl,S3,ld,Jw,aje⟩;obtain ⟨x3,l3,L3⟩:=(ae r6).call S3 (by omega);have tq:=L3.ui.keeps.size;have auY:=(ae r6).ui.keeps.size;have aoE:=hide (show (fW m').2.alive->m'.place=(fW m').1.pl/\zB w3 w.heap.size (.slice va3 n3 vc3) (fW m').1/\∀k,(Value.slice va3 n3 vc3).ownBlock=some k->(Value.slice va vs.length vc).ownBlock≠some k from λha=>by
     have he:=aje ha;refine ⟨rfl,?_,λk hk e=>?_⟩
     . unfold zB
       have US:(fW m').1.vals.length=n3:=by rw [<- Jw,he,aW]
       rw [US,<- he];exact cL ld (by omega)
     . have h1:=(ld.lt k hk).1
       have h2:=((ae r6).ui.own.lt k e).2;omega)
    have I8:=hide L3;have IE:=hide (L3.ui.own.alloc (.cells #[.int .i64 m'.place,.slice va3 n3 vc3] 169));have Gv:=hide (World.news_of_block (ai w3 (.cells #[.int .i64 m'.place,.slice va3 n3 vc3] 169)));clear S3 L3 ld Jw aje;go_wp2_with (at_builtin;refine cA _ rfl _ _ 171 rfl w.heap.size 169 i0 _ 2 32 Tryz.underlying171 hi jS jD jv rfl (by decide) _ _ _ rfl (ae IE) ⟨w3.heap.size,0,none⟩ 1 1 (Dt (m'.place,.slice va3 n3 vc3)) rfl rfl (ae Gv) (aeV _ _ _ _) (by decide) ?c3 ?c4 ?c5 ?_)
    case c3=>unfold maxLen;omega
    case c4=>omega
    case c5=>simp;omega
    intro g cap w5 br bE bW;have UZ:=hide (vD.more (a:=(m'.place,.slice va3 n3 vc3)) (r:=(fW m').1) (ae I8) br bE (by simpa using bW) (by omega) (ae aoE));clear br bE bW;go_wp2_with fail;go_roundw
    case rel=>exact ⟨x3,_,l3,_,_,_,UZ,by omega,o8⟩
    case measure=>rw [(ae UZ).ui.bN.left,ae UE];omega
  . have ic:m'.is cI=false:=by rw [hoi];simpa using hc
    have jZ:(rs,m')=jw (fW m.name.2).2.len [(fW m.name.2).1] (fW m.name.2).2:=(Qg ic).symm.trans (ae Rb);have HF:=hide jZ;have XO:decide (aB m'.tk∈[11])=false:=by simpa using hc
    rw [XO] at hI;have HI:=hide hI;have HL1:=hide L1;clear hc ic hoi XO hI L1 BF jZ;go_wp2_with fail;refine (ae HI).mono ?_;rintro r w2' ⟨rfl,XP⟩;have L2:=(ae HL1).below XP;obtain ⟨c0,c1⟩:=hY L2.dV;have r6:=hide L2;clear XP L2;go_wp2_with fail;go_ret;refine ⟨_,vs,rfl,?_,(ae r6).ui.own,?_⟩
    . rw [<- ae HF];exact (ae r6).ui.step
    . rw [<- ae HF]
      intro ha;exact ((ae r6).rows ha).mono (λa _ s hs=>⟨hs.1,hs.2.1⟩)
theorem Qh {w:World}{p:Nat}{x:cB}{m:Mode}{l:List Tok}(h:cO w p x m l):(if aB m.tk=22 then m.next else m.wrong 2)=m.take kP:=uM (sd h.xF)
def Dw (m:Mode):Mode:=m.name.2.take wy
def grC (m:Mode):Mode:=(Dw m).name.2.take cI
def T3 (m:Mode):Mode:=((gu (grC m)).2.take eG).take kP
theorem XQ {w:World}{p:Nat}{x:cB}{m:Mode}{l:List Tok}(h:cO w p x m l)(ho:dK w)(hp:12<=p)(hd:x.depth=0):Calls Tryz.prog 58 #[.pointer (some ⟨p,0,none⟩)] w λr w'=>
 ∃va n vc ls e,r=.returned (.iface 183 (.agg #[.string (bn m.tk),.int .i64 m.place,.string (bn (Dw m).tk),.int .i64 (Dw m).place,.slice va n vc,.int .i64 (T3 m).place,qL e]))/\bI w w' p x (nR (T3 m)).2/\w'.ownsRow w.heap.size 106 2 (.slice va n vc) n (jF ls)/\ls.length=n/\
   ((nR (T3 m)).2.alive->ls=(gu (grC m)).1/\(e,(T3 m).place)=(nR (T3 m)).1):=by
 have HA:=hide (PG.start h);have eB:=h.bN.lt;have HO:=hide ho;clear h ho;go_enter Tryz.func58,Tryz.ntmps58;go_wp2_with fail;refine (jk (ae HA).bN).mono ?_;rintro r w1 ⟨rfl,S1⟩;obtain ⟨x1,l1,A1⟩:=(ae HA).call S1;have HN1:=hide (ai w1 (.cells #[.string (bn m.tk),.int .i64 m.place] 106));have qp:=hide (A1.below (show Below w1.heap.size w1 (w1.alloc (.cells #[.string (bn m.tk),.int .i64 m.place] 106)) from (ag _ _).alloc (af _) _));have QR:=A1.lt;have nN:=A1.keeps.size;clear S1 A1;go_wp2_with fail;refine (gK (ae qp).bN 25).mono ?_;rintro r w2 ⟨rfl,S2⟩;rw [KM (ae qp).bN] at S2;have S2':bI _ w2 p x1 (Dw m):=S2;obtain ⟨x2,l2,A2⟩:=(ae qp).call S2';have HN2:=hide (mP.block S2' (ae HN1) (by omega));have rE:=hide A2;clear S2 S2' A2;unfold iZ;go_wp2_with fail;refine (jk (ae rE).bN).mono ?_;rintro r w3 ⟨rfl,S3⟩;obtain ⟨x3,l3,A3⟩:=(ae rE).call S3;have hN3:=mP.block S3 (ae HN2) (by omega);have eD:Below w3.heap.size w3 (w3.alloc (.cells #[.string (bn (Dw m).tk),.int .i64 (Dw m).place] 106)):=(ag _ _).alloc (af _) _;have HN3:=hide ((eD.block w1.heap.size (fK hN3)).trans hN3);have UX:=hide (ai w3 (.cells #[.string (bn (Dw m).tk),.int .i64 (Dw m).place] 106));have yE:=hide (A3.below eD);have hp3:=A3.lt;have tq:=A3.keeps.size;have hl3:=fK hN3;clear S3 A3 hN3 eD;go_wp2_with fail;refine (gK (ae yE).bN 11).mono ?_;rintro r w4 ⟨rfl,S4⟩;rw [xH (ae yE).bN] at S4;have S4':bI _ w4 p x3 (grC m):=S4;obtain ⟨x4,l4,A4⟩:=(ae yE).call S4';have HN4:=hide (mP.block S4' (ae HN3) (by omega));have YK:=hide (mP.block S4' (ae UX) (by omega));have CO:=hide A4;have Y1:=A4.bN.Pu;have Jt:=A4.keeps.size;have ajh:=S4'.keeps.size;have hz4:w3.heap.size+1<=w4.heap.size:=by simpa using ajh
 clear S4 S4' A4 ajh;unfold iZ;go_wp2_with fail;refine (MA (ae CO).bN (by omega)).mono ?_;rintro r w5 ⟨v,ls,rfl,S5,br,hls⟩;obtain ⟨x5,l5,A5⟩:=(ae CO).call S5;have HN5:=hide (mP.block S5 (ae HN4) (by omega));have HT5:=hide (mP.block S5 (ae YK) (by omega));have He:=hide A5;have HLS:=hide hls;have HV5:=hide (cL br Jt);obtain ⟨va,vc,hv⟩:=kI br;obtain ⟨n,hn⟩:∃n,n=ls.length:=⟨_,rfl⟩;rw [<- hn] at hv HV5;have HNL:=hide hn;subst hv;clear S5 A5 hls br hn;go_wp2_with fail;refine (gK (ae He).bN 12).mono ?_;rintro r w6 ⟨rfl,S6⟩;rw [oj (ae He).bN] at S6;obtain ⟨x6,l6,A6⟩:=(ae He).call S6;have HN6:=hide (mP.block S6 (ae HN5) (by omega));have HT6:=hide (mP.block S6 (ae HT5) (by omega));have HV6:=hide (xM (ae HV5) S6 (af _) eB);have HA6:=hide A6;clear S6 A6;unfold iZ;go_wp2_with fail;refine (gK (ae HA6).bN 22).mono ?_;rintro r w7 ⟨rfl,S7⟩;rw [Qh (ae HA6).bN] at S7;have S7':bI _ w7 p x6 (T3 m):=S7;obtain ⟨x7,l7,A7⟩:=(ae HA6).call S7';have hN7:=mP.block S7' (ae HN6) (by omega);have hT7:=mP.block S7' (ae HT6) (by omega);have hV7:=xM (ae HV6) S7' (af _) eB;have A7d:=A7.below (aJ (ag w7.heap.size w7));have HF:=hide (zw A7d.bN (dK.keep (ae HO) A7d.keeps hp eB) hp (by rw [A7d.depth];exact hd));obtain ⟨n0,n1⟩:=hY hN7;obtain ⟨t0,t1⟩:=hY hT7;have YH:=hide (show ∀w8,bI w7.drew w8 p x7 (nR (T3 m)).2->(w8.cell? ⟨w1.heap.size,0,none⟩=some (.string (bn m.tk))/\w8.cell? ⟨w1.heap.size,1,none⟩=some (.int .i64 m.place))/\(w8.cell? ⟨w3.heap.size,0,none⟩=some (.string (bn (Dw m).tk))/\w8.cell? ⟨w3.heap.size,1,none⟩=some (.int .i64 (Dw m).place))/\bI w w8 p x (nR (T3 m)).2/\w8.ownsRow w.heap.size 106 2 (.slice va n vc) n (jF ls) from λw8 S8=>by
  obtain ⟨x8,l8,A8⟩:=A7d.call S8;have hN8:=mP.block S8 (show w7.drew.heap[w1.heap.size]?=_ from hN7) (by omega);have hT8:=mP.block S8 (show w7.drew.heap[w3.heap.size]?=_ from hT7) (by omega);have aoG:w7.drew.ownsRow w.heap.size 106 2 (.slice va n vc) n (jF ls):=Jq hV7 (λ_ _=>rfl) (af _);exact ⟨hY hN8,hY hT8,A8.step,xM aoG S8 (af _) eB⟩)
 clear S7 S7' A7 A7d hN7 hT7 hV7;unfold iZ;go_wp2_with fail;go_region_with (with_reducible refine ju (ae HF) ?_;rintro r w8 ⟨e,rfl,S8,he⟩;obtain ⟨t4,v4,ht4⟩:=ek e;obtain ⟨⟨u0,u1⟩,⟨s0,s1⟩,hS,hV⟩:=ae YH w8 S8;have HS:=hide hS;have HV:=hide hV;have HE:=hide he;have YK:=hide ht4;rw [ht4];clear S8 hS hV he ht4)
 all_goals
  (try go_wp2_with fail)
  go_ret;refine ⟨va,n,vc,ls,e,(by rw [ae YK];first|done|rfl),ae HS,ae HV,(ae HNL).symm,λha=>⟨?_,ae HE ha⟩⟩;exact ae HLS (kC (kC (Js ha)))
def Ns (pl:Nat)(t:Nm):gV:={ bare kc pl with table:=t }
inductive mj (w:World) (base:Nat):Value->xZ->Prop
 | xO (t:Nm) (cols:List (Nm×Nat)) (v:Value):w.ownsRow base 163 3 v cols.length (tJ cols)->mj w base (.iface 166 (.agg #[.string t.1,.int .i64 t.2,v])) (.create t cols)
 | Jx (t:Nm):mj w base (.iface 129 (.agg #[.string t.1,.int .i64 t.2])) (.drop t)
 | Jy (t:Nm) (v:Value) (vs:List (Nat×Value)) (rows:List oz):w.ownsRow base 169 2 v vs.length (tR vs)->Each (fun a r=>a.1=r.pl/\zB w base a.2 r) vs rows->mj w base (.iface 174 (.agg #[.string t.1,.int .i64 t.2,v])) (.load t rows)
 | B6 (u t:Nm) (cols:List Nm) (e:Ex) (pl:Nat) (v:Value):w.ownsRow base 106 2 v cols.length (jF cols)->mj w base (.iface 183 (.agg #[.string u.1,.int .i64 u.2,.string t.1,.int .i64 t.2,v,.int .i64 pl,qL e])) (.wu u t cols e pl)
 | xP (u t:Nm):mj w base (.iface 132 (.agg #[.string u.1,.int .i64 u.2,.string t.1,.int .i64 t.2])) (.uw u t)
 | Ca (pl:Nat) (t:Nm) (v:Value) (ss:List gV):w.ownsRow base 145 1 v ss.length (ss.map fun s:gV=>kZ s.pl)->mj w base (.iface 109 (.agg #[.int .i64 pl,.string t.1,.int .i64 t.2,v])) (.query (Ns pl t :: ss))
section
variable {m:Mode} (hw:m.tk.wf)
include hw
theorem rG:m.is mq=decide (aB m.tk=30):=eu (i:=9) hw rfl (by decide)
theorem Cb:m.is vu=decide (aB m.tk=31):=eu (i:=10) hw rfl (by decide)
theorem Gc:m.is yu=decide (aB m.tk=32):=eu (i:=11) hw rfl (by decide)
theorem D7:m.is wB=decide (aB m.tk=33):=eu (i:=12) hw rfl (by decide)
theorem Gd:m.is xB=decide (aB m.tk=34):=eu (i:=13) hw rfl (by decide)
theorem XR:m.is kc=decide (aB m.tk=21):=eu (i:=0) hw rfl (by decide)
theorem Qi (h:aB m.tk=30):aV m=(.create m.next.name.1 (cC mS (m.next.name.2.take cI)).1,(cC mS (m.next.name.2.take cI)).2.take eG):=by
 unfold aV;rw [rG hw,bu h];rfl
theorem XS (h:aB m.tk=31):aV m=(.drop m.next.name.1,m.next.name.2):=by
 unfold aV;rw [rG hw,Cb hw,bu h,aI (show ¬aB m.tk=30 by omega)];rfl
theorem XT (h:aB m.tk=32):aV m=(.load m.next.name.1 (jw (fW m.next.name.2).2.len [(fW m.next.name.2).1] (fW m.next.name.2).2).1,(jw (fW m.next.name.2).2.len [(fW m.next.name.2).1] (fW m.next.name.2).2).2):=by
 unfold aV;rw [rG hw,Cb hw,Gc hw,bu h,aI (show ¬aB m.tk=30 by omega),aI (show ¬aB m.tk=31 by omega)];rfl
theorem T4 (h:aB m.tk=33):aV m=(.wu m.next.name.1 (Dw m.next).name.1 (gu (grC m.next)).1 (nR (T3 m.next)).1.1 (nR (T3 m.next)).1.2,(nR (T3 m.next)).2):=by
 unfold aV;rw [rG hw,Cb hw,Gc hw,D7 hw,bu h,aI (show ¬aB m.tk=30 by omega),aI (show ¬aB m.tk=31 by omega),aI (show ¬aB m.tk=32 by omega)];rfl
theorem Qj (h:aB m.tk=34):aV m=(.uw m.next.name.1 (Dw m.next).name.1,(Dw m.next).name.2):=by
 unfold aV;rw [rG hw,Cb hw,Gc hw,D7 hw,Gd hw,bu h,aI (show ¬aB m.tk=30 by omega),aI (show ¬aB m.tk=31 by omega),aI (show ¬aB m.tk=32 by omega),aI (show ¬aB m.tk=33 by omega)];rfl
theorem XU (h:aB m.tk=21):aV m=(.query (eC m.next.name.2.len [Ns m.place m.next.name.1] m.next.name.2).1,(eC m.next.name.2.len [Ns m.place m.next.name.1] m.next.name.2).2):=by
 have ht:m.take kc=m.next:=by unfold Mode.take;rw [XR hw,bu h];rfl
 unfold aV;rw [rG hw,Cb hw,Gc hw,D7 hw,Gd hw,ht,aI (show ¬aB m.tk=30 by omega),aI (show ¬aB m.tk=31 by omega),aI (show ¬aB m.tk=32 by omega),aI (show ¬aB m.tk=33 by omega),aI (show ¬aB m.tk=34 by omega)];rfl
theorem XV (h30:¬aB m.tk=30)(h31:¬aB m.tk=31)(h32:¬aB m.tk=32)(h33:¬aB m.tk=33)(h34:¬aB m.tk=34)(h21:¬aB m.tk=21):(aV m).2=m.wrong 2:=by
 have ht:m.take kc=m.wrong 2:=by unfold Mode.take;rw [XR hw,aI h21];rfl
 obtain ⟨a,b,Iw⟩:=zx m 2;unfold aV;rw [rG hw,Cb hw,Gc hw,D7 hw,Gd hw,ht,aI h30,aI h31,aI h32,aI h33,aI h34,Iw];rfl
end
theorem AZ {w:World}{p:Nat}{x:cB}{m:Mode}{l:List Tok}(h:cO w p x m l)(ho:dK w)(hp:12<=p)(_hd:x.depth=0)(hk:aB m.tk=30):Calls Tryz.prog 39 #[.pointer (some ⟨p,0,none⟩)] w λr w'=>
 ∃v,r=.returned v/\pM v/\bI w w' p x (aV m).2/\((aV m).2.alive->mj w' w.heap.size v (aV m).1):=by
 have e30:((aB m.tk:Int)==30)=true:=by rw [bz];omega
 have eB:=h.bN.lt;have Bl:=h.xF;have HS:=hide (Qi Bl hk);have GA:=hide (PG.start h);have HO:=hide ho;clear h ho hk;go_enter Tryz.func39,Tryz.ntmps39;go_wp2_with fail;refine (gJ (ae GA).bN).mono ?_;rintro r w0 ⟨rfl,S0⟩;obtain ⟨x0,l0,Cc⟩:=(ae GA).call S0;have iw:Below w0.heap.size w0 (w0.alloc (.cells #[.int .i64 (aB m.tk),.int .i64 m.place,.string (bn m.tk),.int .i64 (dt m.tk)] 102)):=(ag _ _).alloc (af _) _;have A0:=Cc.below iw;have UR:x0.depth=x.depth:=A0.depth;have Od:=dK.keep (ae HO) A0.keeps hp eB;have LC:=hide (ai w0 (.cells #[.int .i64 (aB m.tk),.int .i64 m.place,.string (bn m.tk),.int .i64 (dt m.tk)] 102));obtain ⟨y0,y1,y2,y3⟩:=bD (ae LC);have xb:w.heap.size<=(w0.alloc (.cells #[.int .i64 (aB m.tk),.int .i64 m.place,.string (bn m.tk),.int .i64 (dt m.tk)] 102)).heap.size:=A0.keeps.size;have NU:=Cc.lt;have HC:=hide (Tg A0.bN (by have:=A0.bN.Pu;omega));have HA:=hide A0;clear S0 Cc iw A0 Od;unfold iZ;go_wp2_with fail;refine (ae HC).mono ?_;rintro r w1 ⟨v,ls,rfl,S1,br,he⟩;obtain ⟨x1,l1,A1⟩:=(ae HA).call S1;have pC:=hide A1.step;have HE:=hide he;have HOW:=hide (cL br xb);obtain ⟨va,vc,hv⟩:=kI br;subst hv;clear S1 A1 he br;go_wp2_with fail;go_ret;refine ⟨_,rfl,.inr ⟨_,_,rfl⟩,?_,?_⟩
 . rw [ae HS];exact ae pC
 . rw [ae HS]
   intro ha;have h1:=ae HE ha;have h2:=(od m.next).2 (kC (Jr Kt (kC ha)));rw [<- h1,<- h2];exact mj.xO (bn m.next.tk,m.next.place) ls _ (ae HOW)
theorem Dx {w:World}{p:Nat}{x:cB}{m:Mode}{l:List Tok}(h:cO w p x m l)(ho:dK w)(hp:12<=p)(_hd:x.depth=0)(hk:aB m.tk=31):Calls Tryz.prog 39 #[.pointer (some ⟨p,0,none⟩)] w λr w'=>
 ∃v,r=.returned v/\pM v/\bI w w' p x (aV m).2/\((aV m).2.alive->mj w' w.heap.size v (aV m).1):=by
 have e30:((aB m.tk:Int)==30)=false:=by rw [aj];omega
 have e31:((aB m.tk:Int)==31)=true:=by rw [bz];omega
 have eB:=h.bN.lt;have Bl:=h.xF;have HS:=hide (XS Bl hk);have GA:=hide (PG.start h);have HO:=hide ho;clear h ho hk;go_enter Tryz.func39,Tryz.ntmps39;go_wp2_with fail;refine (gJ (ae GA).bN).mono ?_;rintro r w0 ⟨rfl,S0⟩;obtain ⟨x0,l0,Cc⟩:=(ae GA).call S0;have iw:Below w0.heap.size w0 (w0.alloc (.cells #[.int .i64 (aB m.tk),.int .i64 m.place,.string (bn m.tk),.int .i64 (dt m.tk)] 102)):=(ag _ _).alloc (af _) _;have A0:=Cc.below iw;have UR:x0.depth=x.depth:=A0.depth;have Od:=dK.keep (ae HO) A0.keeps hp eB;have LC:=hide (ai w0 (.cells #[.int .i64 (aB m.tk),.int .i64 m.place,.string (bn m.tk),.int .i64 (dt m.tk)] 102));obtain ⟨y0,y1,y2,y3⟩:=bD (ae LC);have xb:w.heap.size<=(w0.alloc (.cells #[.int .i64 (aB m.tk),.int .i64 m.place,.string (bn m.tk),.int .i64 (dt m.tk)] 102)).heap.size:=A0.keeps.size;have NU:=Cc.lt;have HC:=hide (jk A0.bN);have HA:=hide A0;clear S0 Cc iw A0 Od;unfold iZ;go_wp2_with fail;refine (ae HC).mono ?_;rintro r w1 ⟨rfl,S1⟩;obtain ⟨x1,l1,A1⟩:=(ae HA).call S1;have pC:=hide A1.step;clear S1 A1;go_wp2_with fail;go_ret;refine ⟨_,rfl,.inr ⟨_,_,rfl⟩,?_,?_⟩
 . rw [ae HS];exact ae pC
 . rw [ae HS]
   intro ha;rw [<- (od m.next).2 ha];exact mj.Jx (bn m.next.tk,m.next.place)
theorem Qk {w:World}{base rQ:Nat}(hb:rQ<=base){vs:List (Nat×Value)}{rs:List oz}(h:Each (λa r=>a.1=r.pl/\zB w base a.2 r) vs rs):Each (λa r=>a.1=r.pl/\zB w rQ a.2 r) vs rs:=h.mono (λ_ _ _ hs=>⟨hs.1,cL hs.2 hb⟩)
theorem T5 {m:Mode}:∀{n:Nat} {l:List oz},(jw n l m).2.alive->m.alive:=by
 intro n l
 induction n generalizing l m with
 |zero=>exact id
 |succ n ih=>
   unfold jw;split
   . intro ha
     have h1:=ih ha;exact ig.mpr (aw (ig.mp h1) (aw (D6 m) (ij m cI)))
   . exact id
theorem Nt {m:Mode}:∀{n:Nat} {l:List gV},(eC n l m).2.alive->m.alive:=by
 intro n l
 induction n generalizing l m with
 |zero=>exact id
 |succ n ih=>
   unfold eC;split
   . intro ha
     have h1:=ih ha;exact ig.mpr (aw (ig.mp h1) (aw (Jo m.next) bG))
   . exact id
theorem Dy {w:World}{p:Nat}{x:cB}{m:Mode}{l:List Tok}(h:cO w p x m l)(ho:dK w)(hp:12<=p)(hd:x.depth=0)(hk:aB m.tk=32):Calls Tryz.prog 39 #[.pointer (some ⟨p,0,none⟩)] w λr w'=>
 ∃v,r=.returned v/\pM v/\bI w w' p x (aV m).2/\((aV m).2.alive->mj w' w.heap.size v (aV m).1):=by
 have e30:((aB m.tk:Int)==30)=false:=by rw [aj];omega
 have e31:((aB m.tk:Int)==31)=false:=by rw [aj];omega
 have e32:((aB m.tk:Int)==32)=true:=by rw [bz];omega
 have eB:=h.bN.lt;have Bl:=h.xF;have HS:=hide (XT Bl hk);have GA:=hide (PG.start h);have HO:=hide ho;clear h ho hk;go_enter Tryz.func39,Tryz.ntmps39;go_wp2_with fail;refine (gJ (ae GA).bN).mono ?_;rintro r w0 ⟨rfl,S0⟩;obtain ⟨x0,l0,Cc⟩:=(ae GA).call S0;have iw:Below w0.heap.size w0 (w0.alloc (.cells #[.int .i64 (aB m.tk),.int .i64 m.place,.string (bn m.tk),.int .i64 (dt m.tk)] 102)):=(ag _ _).alloc (af _) _;have A0:=Cc.below iw;have UR:x0.depth=x.depth:=A0.depth;have Od:=dK.keep (ae HO) A0.keeps hp eB;have LC:=hide (ai w0 (.cells #[.int .i64 (aB m.tk),.int .i64 m.place,.string (bn m.tk),.int .i64 (dt m.tk)] 102));obtain ⟨y0,y1,y2,y3⟩:=bD (ae LC);have xb:w.heap.size<=(w0.alloc (.cells #[.int .i64 (aB m.tk),.int .i64 m.place,.string (bn m.tk),.int .i64 (dt m.tk)] 102)).heap.size:=A0.keeps.size;have NU:=Cc.lt;have HC:=hide (aaS A0.bN Od hp (by rw [UR];exact hd));have HA:=hide A0;clear S0 Cc iw A0 Od;unfold iZ;go_wp2_with fail;refine (ae HC).mono ?_;rintro r w1 ⟨v,vs,rfl,S1,br,he⟩;obtain ⟨x1,l1,A1⟩:=(ae HA).call S1;have pC:=hide A1.step;have HE:=hide he;have HOW:=hide (cL br xb);obtain ⟨va,vc,hv⟩:=kI br;subst hv;clear S1 A1 he br;go_wp2_with fail;go_ret;refine ⟨_,rfl,.inr ⟨_,_,rfl⟩,?_,?_⟩
 . rw [ae HS];exact ae pC
 . rw [ae HS]
   intro ha;have h1:=Qk xb (ae HE ha);have h2:=(od m.next).2 (ig.mpr (aw (ig.mp (T5 ha)) (aw (D6 m.next.name.2) (ij _ _))));rw [<- h2];exact mj.Jy (bn m.next.tk,m.next.place) _ vs _ (ae HOW) h1
theorem Cd {w:World}{p:Nat}{x:cB}{m:Mode}{l:List Tok}(h:cO w p x m l)(ho:dK w)(hp:12<=p)(hd:x.depth=0)(hk:aB m.tk=33):Calls Tryz.prog 39 #[.pointer (some ⟨p,0,none⟩)] w λr w'=>
 ∃v,r=.returned v/\pM v/\bI w w' p x (aV m).2/\((aV m).2.alive->mj w' w.heap.size v (aV m).1):=by
 have e30:((aB m.tk:Int)==30)=false:=by rw [aj];omega
 have e31:((aB m.tk:Int)==31)=false:=by rw [aj];omega
 have e32:((aB m.tk:Int)==32)=false:=by rw [aj];omega
 have e33:((aB m.tk:Int)==33)=true:=by rw [bz];omega
 have eB:=h.bN.lt;have Bl:=h.xF;have HS:=hide (T4 Bl hk);have GA:=hide (PG.start h);have HO:=hide ho;clear h ho hk;go_enter Tryz.func39,Tryz.ntmps39;go_wp2_with fail;refine (gJ (ae GA).bN).mono ?_;rintro r w0 ⟨rfl,S0⟩;obtain ⟨x0,l0,Cc⟩:=(ae GA).call S0;have iw:Below w0.heap.size w0 (w0.alloc (.cells #[.int .i64 (aB m.tk),.int .i64 m.place,.string (bn m.tk),.int .i64 (dt m.tk)] 102)):=(ag _ _).alloc (af _) _;have A0:=Cc.below iw;have UR:x0.depth=x.depth:=A0.depth;have Od:=dK.keep (ae HO) A0.keeps hp eB;have LC:=hide (ai w0 (.cells #[.int .i64 (aB m.tk),.int .i64 m.place,.string (bn m.tk),.int .i64 (dt m.tk)] 102));obtain ⟨y0,y1,y2,y3⟩:=bD (ae LC);have xb:w.heap.size<=(w0.alloc (.cells #[.int .i64 (aB m.tk),.int .i64 m.place,.string (bn m.tk),.int .i64 (dt m.tk)] 102)).heap.size:=A0.keeps.size;have NU:=Cc.lt;have HC:=hide (XQ A0.bN Od hp (by rw [UR];exact hd));have HA:=hide A0;clear S0 Cc iw A0 Od;unfold iZ;go_wp2_with fail;refine (ae HC).mono ?_;rintro r w1 ⟨va,n,vc,ls,e,rfl,S1,br,hn,he⟩;obtain ⟨te,ve,jW⟩:=ek e;obtain ⟨x1,l1,A1⟩:=(ae HA).call S1;have pC:=hide A1.step;have HE:=hide he;have HOW:=hide (cL br xb);have HNL:=hide hn;have yD:=hide jW;rw [jW];clear S1 A1 he br hn jW;go_wp2_with fail;go_ret;refine ⟨_,rfl,.inr ⟨_,_,rfl⟩,?_,?_⟩
 . rw [ae HS];exact ae pC
 . rw [ae HS]
   intro ha;obtain ⟨h1,h2⟩:=ae HE ha;have aE:(T3 m.next).alive:=Js ha;have aC:(grC m.next).alive:=Jr cP (kC (kC aE));have aT2:(Dw m.next).name.2.alive:=kC aC;have aT:(Dw m.next).alive:=ig.mpr (aw (ig.mp aT2) (cP _));have h3:=(od (Dw m.next)).2 aT2;have h4:=(od m.next).2 (kC aT);have hw:=ae HOW;rw [<- ae HNL] at hw;rw [<- h2,<- h3,<- h4,<- h1,<- ae yD,<- ae HNL];exact mj.B6 (bn m.next.tk,m.next.place) (bn (Dw m.next).tk,(Dw m.next).place) ls e (T3 m.next).place _ hw
theorem Dz {w:World}{p:Nat}{x:cB}{m:Mode}{l:List Tok}(h:cO w p x m l)(ho:dK w)(hp:12<=p)(hd:x.depth=0)(hk:aB m.tk=21):Calls Tryz.prog 39 #[.pointer (some ⟨p,0,none⟩)] w λr w'=>
 ∃v,r=.returned v/\pM v/\bI w w' p x (aV m).2/\((aV m).2.alive->mj w' w.heap.size v (aV m).1):=by
 have e30:((aB m.tk:Int)==30)=false:=by rw [aj];omega
 have e31:((aB m.tk:Int)==31)=false:=by rw [aj];omega
 have e32:((aB m.tk:Int)==32)=false:=by rw [aj];omega
 have e33:((aB m.tk:Int)==33)=false:=by rw [aj];omega
 have e34:((aB m.tk:Int)==34)=false:=by rw [aj];omega
 have e21:((aB m.tk:Int)==21)=true:=by rw [bz];omega
 have eB:=h.bN.lt;have Bl:=h.xF;have HS:=hide (XU Bl hk);have GA:=hide (PG.start h);have HO:=hide ho;clear h ho hk;go_enter Tryz.func39,Tryz.ntmps39;go_wp2_with fail;refine (gJ (ae GA).bN).mono ?_;rintro r w0 ⟨rfl,S0⟩;obtain ⟨x0,l0,Cc⟩:=(ae GA).call S0;have iw:Below w0.heap.size w0 (w0.alloc (.cells #[.int .i64 (aB m.tk),.int .i64 m.place,.string (bn m.tk),.int .i64 (dt m.tk)] 102)):=(ag _ _).alloc (af _) _;have A0:=Cc.below iw;have UR:x0.depth=x.depth:=A0.depth;have Od:=dK.keep (ae HO) A0.keeps hp eB;have LC:=hide (ai w0 (.cells #[.int .i64 (aB m.tk),.int .i64 m.place,.string (bn m.tk),.int .i64 (dt m.tk)] 102));obtain ⟨y0,y1,y2,y3⟩:=bD (ae LC);have xb:w.heap.size<=(w0.alloc (.cells #[.int .i64 (aB m.tk),.int .i64 m.place,.string (bn m.tk),.int .i64 (dt m.tk)] 102)).heap.size:=A0.keeps.size;have NU:=Cc.lt;have HC:=hide (Xj A0.bN Od hp (by rw [UR];exact hd) m.place (Ns m.place m.next.name.1));have HA:=hide A0;clear S0 Cc iw A0 Od;unfold iZ;go_wp2_with fail;refine (ae HC).mono ?_;rintro r w1 ⟨v,ss,rfl,S1,br,DJ⟩;obtain ⟨x1,l1,A1⟩:=(ae HA).call S1;have pC:=hide A1.step;have HSS:=hide DJ;have HOW:=hide (cL br xb);obtain ⟨va,vc,hv⟩:=kI br;subst hv;clear S1 A1 br DJ;go_wp2_with fail;go_ret;refine ⟨_,rfl,.inr ⟨_,_,rfl⟩,?_,?_⟩
 . rw [ae HS];exact ae pC
 . rw [ae HS]
   intro ha;have h2:=(od m.next).2 (Nt ha);show mj _ _ _ (.query (eC m.next.name.2.len [Ns m.place m.next.name.1] m.next.name.2).1);rw [ae HSS,<- h2];exact mj.Ca m.place (bn m.next.tk,m.next.place) _ ss (ae HOW)
theorem DA {w:World}{p:Nat}{x:cB}{m:Mode}{l:List Tok}(h:cO w p x m l)(ho:dK w)(hp:12<=p)(_hd:x.depth=0)(h30:¬aB m.tk=30)(h31:¬aB m.tk=31)(h32:¬aB m.tk=32)(h33:¬aB m.tk=33)(h34:¬aB m.tk=34)(h21:¬aB m.tk=21):Calls Tryz.prog 39 #[.pointer (some ⟨p,0,none⟩)] w λr w'=>
 ∃v,r=.returned v/\pM v/\bI w w' p x (aV m).2/\((aV m).2.alive->mj w' w.heap.size v (aV m).1):=by
 have e30:((aB m.tk:Int)==30)=false:=by rw [aj];omega
 have e31:((aB m.tk:Int)==31)=false:=by rw [aj];omega
 have e32:((aB m.tk:Int)==32)=false:=by rw [aj];omega
 have e33:((aB m.tk:Int)==33)=false:=by rw [aj];omega
 have e34:((aB m.tk:Int)==34)=false:=by rw [aj];omega
 have e21:((aB m.tk:Int)==21)=false:=by rw [aj];omega
 have eB:=h.bN.lt;have Bl:=h.xF;have HS:=hide (XV Bl h30 h31 h32 h33 h34 h21);have GA:=hide (PG.start h);have HO:=hide ho;clear h ho h30 h31 h32 h33 h34 h21;go_enter Tryz.func39,Tryz.ntmps39;go_wp2_with fail;refine (gJ (ae GA).bN).mono ?_;rintro r w0 ⟨rfl,S0⟩;obtain ⟨x0,l0,Cc⟩:=(ae GA).call S0;have iw:Below w0.heap.size w0 (w0.alloc (.cells #[.int .i64 (aB m.tk),.int .i64 m.place,.string (bn m.tk),.int .i64 (dt m.tk)] 102)):=(ag _ _).alloc (af _) _;have A0:=Cc.below iw;have UR:x0.depth=x.depth:=A0.depth;have Od:=dK.keep (ae HO) A0.keeps hp eB;have LC:=hide (ai w0 (.cells #[.int .i64 (aB m.tk),.int .i64 m.place,.string (bn m.tk),.int .i64 (dt m.tk)] 102));obtain ⟨y0,y1,y2,y3⟩:=bD (ae LC);have xb:w.heap.size<=(w0.alloc (.cells #[.int .i64 (aB m.tk),.int .i64 m.place,.string (bn m.tk),.int .i64 (dt m.tk)] 102)).heap.size:=A0.keeps.size;have NU:=Cc.lt;have HC:=hide (mX A0.bN m.tk m.place);have HA:=hide A0;clear S0 Cc iw A0 Od;unfold iZ;go_wp2_with fail;refine (ae HC).mono ?_;rintro r w1 ⟨rfl,S1⟩;rw [pL] at S1;obtain ⟨x1,l1,A1⟩:=(ae HA).call S1;have pC:=hide A1.step;clear S1 A1;go_wp2_with fail;go_ret;refine ⟨_,rfl,.inl rfl,?_,?_⟩
 . rw [ae HS];exact ae pC
 . rw [ae HS]
   intro ha;exact absurd ha (cj m 2)
theorem A9 {w:World}{p:Nat}{x:cB}{m:Mode}{l:List Tok}(h:cO w p x m l)(ho:dK w)(hp:12<=p)(_hd:x.depth=0)(hk:aB m.tk=34):Calls Tryz.prog 39 #[.pointer (some ⟨p,0,none⟩)] w λr w'=>
 ∃v,r=.returned v/\pM v/\bI w w' p x (aV m).2/\((aV m).2.alive->mj w' w.heap.size v (aV m).1):=by
 have e30:((aB m.tk:Int)==30)=false:=by rw [aj];omega
 have e31:((aB m.tk:Int)==31)=false:=by rw [aj];omega
 have e32:((aB m.tk:Int)==32)=false:=by rw [aj];omega
 have e33:((aB m.tk:Int)==33)=false:=by rw [aj];omega
 have e34:((aB m.tk:Int)==34)=true:=by rw [bz];omega
 have eB:=h.bN.lt;have Bl:=h.xF;have HS:=hide (Qj Bl hk);have GA:=hide (PG.start h);have HO:=hide ho;clear h ho hk;go_enter Tryz.func39,Tryz.ntmps39;go_wp2_with fail;refine (gJ (ae GA).bN).mono ?_;rintro r w0 ⟨rfl,S0⟩;obtain ⟨x0,l0,Cc⟩:=(ae GA).call S0;have iw:Below w0.heap.size w0 (w0.alloc (.cells #[.int .i64 (aB m.tk),.int .i64 m.place,.string (bn m.tk),.int .i64 (dt m.tk)] 102)):=(ag _ _).alloc (af _) _;have A0:=Cc.below iw;have UR:x0.depth=x.depth:=A0.depth;have Od:=dK.keep (ae HO) A0.keeps hp eB;have LC:=hide (ai w0 (.cells #[.int .i64 (aB m.tk),.int .i64 m.place,.string (bn m.tk),.int .i64 (dt m.tk)] 102));obtain ⟨y0,y1,y2,y3⟩:=bD (ae LC);have xb:w.heap.size<=(w0.alloc (.cells #[.int .i64 (aB m.tk),.int .i64 m.place,.string (bn m.tk),.int .i64 (dt m.tk)] 102)).heap.size:=A0.keeps.size;have NU:=Cc.lt;have HC:=hide (jk A0.bN);have HA:=hide A0;clear S0 Cc iw A0 Od;unfold iZ;go_wp2_with fail;refine (ae HC).mono ?_;rintro r w1 ⟨rfl,S1⟩;obtain ⟨x1,l1,A1⟩:=(ae HA).call S1;have HN1:=hide (ai w1 (.cells #[.string (bn m.next.tk),.int .i64 m.next.place] 106));have qp:=hide (A1.below (show Below w1.heap.size w1 (w1.alloc (.cells #[.string (bn m.next.tk),.int .i64 m.next.place] 106)) from (ag _ _).alloc (af _) _));have QR:=A1.lt;clear S1 A1;go_wp2_with fail;refine (gK (ae qp).bN 25).mono ?_;rintro r w2 ⟨rfl,S2⟩;rw [KM (ae qp).bN] at S2;have S2':bI _ w2 p x1 (Dw m.next):=S2;obtain ⟨x2,l2,A2⟩:=(ae qp).call S2';have hN2:=mP.block S2' (ae HN1) (by omega);have A2d:=A2.below (aJ (ag w2.heap.size w2));have HF:=hide (jk A2d.bN);obtain ⟨n0,n1⟩:=hY hN2;have YH:=hide (show ∀w3,bI w2.drew w3 p x2 (Dw m.next).name.2->(w3.cell? ⟨w1.heap.size,0,none⟩=some (.string (bn m.next.tk))/\w3.cell? ⟨w1.heap.size,1,none⟩=some (.int .i64 m.next.place))/\bI w w3 p x (Dw m.next).name.2 from λw3 S3=>by
  obtain ⟨x3,l3,A3⟩:=A2d.call S3;have hN3:=mP.block S3 (show w2.drew.heap[w1.heap.size]?=_ from hN2) (by omega);exact ⟨hY hN3,A3.step⟩)
 clear S2 S2' A2 A2d hN2;unfold iZ;go_wp2_with fail;go_region_with (with_reducible refine ju (ae HF) ?_;rintro r w3 ⟨rfl,S3⟩;obtain ⟨⟨u0,u1⟩,hS⟩:=ae YH w3 S3;have pC:=hide hS;clear S3 hS)
 all_goals
  (try go_wp2_with fail)
  go_ret;refine ⟨_,rfl,.inr ⟨_,_,rfl⟩,?_,?_⟩
  . rw [ae HS];exact ae pC
  . rw [ae HS]
    intro ha;have h3:=(od (Dw m.next)).2 ha;have aT:(Dw m.next).alive:=ig.mpr (aw (ig.mp ha) (cP _));have h4:=(od m.next).2 (kC aT);rw [<- h3,<- h4];exact mj.xP (bn m.next.tk,m.next.place) (bn (Dw m.next).tk,(Dw m.next).place)
theorem Ql {w:World}{p:Nat}{x:cB}{m:Mode}{l:List Tok}(h:cO w p x m l)(ho:dK w)(hp:12<=p)(hd:x.depth=0):Calls Tryz.prog 39 #[.pointer (some ⟨p,0,none⟩)] w λr w'=>
 ∃v,r=.returned v/\pM v/\bI w w' p x (aV m).2/\((aV m).2.alive->mj w' w.heap.size v (aV m).1):=by
 by_cases h30:aB m.tk=30
 . exact AZ h ho hp hd h30
 . by_cases h31:aB m.tk=31
   . exact Dx h ho hp hd h31
   . by_cases h32:aB m.tk=32
     . exact Dy h ho hp hd h32
     . by_cases h33:aB m.tk=33
       . exact Cd h ho hp hd h33
       . by_cases h34:aB m.tk=34
         . exact A9 h ho hp hd h34
         . by_cases h21:aB m.tk=21
           . exact Dz h ho hp hd h21
           . exact DA h ho hp hd h30 h31 h32 h33 h34 h21
def zC (m:Mode):Mode:=match m with
 |.live ⟨.stop,_⟩ _=>m
 |_=>m.wrong 2
theorem aaT {S:ByteArray}(hS:S.size<=300):gP S=match zC (aV (Mode.of (dB S 0))).2 with
 |.dead e b=>.inr (e,b)
 |.live _ _=>.inl (aV (Mode.of (dB S 0))).1:=by
 unfold gP;rw [aA (by omega)];simp only;generalize (aV (Mode.of (dB S 0))).2=M
 cases M with
 |dead e b=>rfl
 |live t ts=>
   obtain ⟨k,pl⟩:=t
   cases k<;>rfl
theorem Jz {m:Mode}(hw:m.tk.wf):(aB m.tk=0->zC m=m/\m.alive)/\(¬aB m.tk=0->zC m=m.wrong 2):=by
 unfold zC
 cases m with
 |dead e b=>exact ⟨λh=>by simp [Mode.tk,aB] at h,λ_=>rfl⟩
 |live t ts=>
   obtain ⟨k,pl⟩:=t
   cases k with
   |stop=>exact ⟨λ_=>⟨rfl,trivial⟩,λh=>absurd rfl h⟩
   |bad=>exact ⟨λh=>by simp [Mode.tk,aB] at h,λ_=>rfl⟩
   |name s=>exact ⟨λh=>by simp [Mode.tk,aB] at h,λ_=>rfl⟩
   |num s=>exact ⟨λh=>by simp [Mode.tk,aB] at h,λ_=>rfl⟩
   |str s=>exact ⟨λh=>by simp [Mode.tk,aB] at h,λ_=>rfl⟩
   |sign s=>exact ⟨λh=>by simp [Mode.tk,aB] at h,λ_=>rfl⟩
   |word s=>exact ⟨λh=>by simp [Mode.tk,aB] at h,λ_=>rfl⟩
theorem cO.ae5 {w:World}{p:Nat}{x:cB}{m:Mode}{l:List Tok}(h:cO w p x m l):(m.alive->x.e=0)/\(∀e b,m=.dead e b->x.e=e/\x.b=b/\e≠0):=by
 have hm:=h.mode
 cases m with
 |live t ts=>exact ⟨λ_=>hm.1,λe b h=>by cases h⟩
 |dead e b=>exact ⟨λh=>absurd h (λh=>h),λe' b' h=>by cases h;exact ⟨hm.1,hm.2.1,hm.2.2.1⟩⟩
theorem tS {w1 w2:World}{base:Nat}{t:TypeId}{size:Nat}{v:Value}{n:Nat}{xs:List Value}(h:w1.ownsRow base t size v n xs)(hb:∀g,base<=g->g<w1.heap.size->w2.heap[g]?=w1.heap[g]?):w2.ownsRow base t size v n xs:=by
 refine ⟨h.1,?_⟩;rcases h.2 with h2|⟨q,cp,cur,hv,hq,hc,r⟩
 . exact .inl h2
 . exact .inr ⟨q,cp,cur,hv,hq,(hb q hq (fK hc)).trans hc,r⟩
theorem mj.keep {w1 w2:World}{base:Nat}{v:Value}{c:xZ}(h:mj w1 base v c)(hb:∀g,base<=g->g<w1.heap.size->w2.heap[g]?=w1.heap[g]?):mj w2 base v c:=by
 cases h with
 |xO t cols v h1=>exact .xO t cols v (tS h1 hb)
 |Jx t=>exact .Jx t
 |Jy t v vs rows h1 h2=>exact .Jy t v vs rows (tS h1 hb) (h2.mono (λ_ _ _ hs=>⟨hs.1,tS hs.2 hb⟩))
 |B6 u t cols e pl v h1=>exact .B6 u t cols e pl v (tS h1 hb)
 |xP u t=>exact .xP u t
 |Ca pl t v ss h1=>exact .Ca pl t v ss (tS h1 hb)
theorem mj.lower {w1:World}{base rQ:Nat}{v:Value}{c:xZ}(h:mj w1 base v c)(hb:rQ<=base):mj w1 rQ v c:=by
 cases h with
 |xO t cols v h1=>exact .xO t cols v (cL h1 hb)
 |Jx t=>exact .Jx t
 |Jy t v vs rows h1 h2=>exact .Jy t v vs rows (cL h1 hb) (h2.mono (λ_ _ _ hs=>⟨hs.1,cL hs.2 hb⟩))
 |B6 u t cols e pl v h1=>exact .B6 u t cols e pl v (cL h1 hb)
 |xP u t=>exact .xP u t
 |Ca pl t v ss h1=>exact .Ca pl t v ss (cL h1 hb)
def uV (w':World)(base:Nat)(r:Ending)(S:ByteArray):Prop:=
 ∃v e b,r=.returned (.tuple #[v,.agg #[.int .i64 (e:Nat),.int .i64 (b:Nat)]])/\pM v/\match gP S with
   |.inl c=>e=0/\mj w' base v c
   |.inr q=>e=q.1/\b=q.2/\e≠0
theorem uV.drew {w':World}{base:Nat}{r:Ending}{S:ByteArray}(h:uV w' base r S):uV w'.drew base r S:=by
 obtain ⟨v,e,b,h1,h2,h3⟩:=h;refine ⟨v,e,b,h1,h2,?_⟩;revert h3
 cases gP S with
 |inl c=>exact λh=>⟨h.1,h.2.keep (λ_ _ _=>rfl)⟩
 |inr q=>exact id
theorem xQ {w' w5:World}{base p:Nat}{x5:cB}{l5:List Tok}{S:ByteArray}{v:Value}(hS:S.size<=300)(h5:cO w5 p x5 (zC (aV (Mode.of (dB S 0))).2) l5)(hv:pM v)(hc:(aV (Mode.of (dB S 0))).2.alive->mj w' base v (aV (Mode.of (dB S 0))).1)
 (pJ:(zC (aV (Mode.of (dB S 0))).2).alive->(aV (Mode.of (dB S 0))).2.alive):uV w' base (.returned (.tuple #[v,.agg #[.int .i64 (x5.e:Nat),.int .i64 (x5.b:Nat)]])) S:=by
 have hw:=h5.ae5;refine ⟨v,x5.e,x5.b,rfl,hv,?_⟩;rw [aaT hS];revert hw pJ;generalize zC (aV (Mode.of (dB S 0))).2=M
 cases M with
 |dead e b=>
   intro pJ hw;obtain ⟨h1,h2,h3⟩:=hw.2 e b rfl;exact ⟨h1,h2,by rw [h1];exact h3⟩
 |live t ts=>
   intro pJ hw;exact ⟨hw.1 trivial,hc (pJ trivial)⟩
theorem oQ {w w1 w2:World}{p:Nat}(hb:Below w.heap.size w w1)(k:aQ (Other p w1) w1 w2)(hp:w.heap.size<=p):Below w.heap.size w w2:=
 ⟨k.os.trans hb.os,k.tape.trans hb.tape,k.output.trans hb.output,aw hb.size k.size,λg hg=>(k.block g ⟨by omega,aF hg hb.size⟩).trans (hb.block g hg)⟩
theorem uW {w w2:World}(h:Below w.heap.size w w2)(a b:Value):Below w.heap.size w ((w2.setCell ⟨w.heap.size,0,none⟩ a).setCell ⟨w.heap.size,1,none⟩ b):=
 (h.setCell (p:=⟨w.heap.size,0,none⟩) (af _) a).setCell (p:=⟨w.heap.size,1,none⟩) (af _) b
theorem T6 (S:ByteArray)(w:World)(hS:S.size<=300)(hg:vy w)(ho:dK w):Calls Tryz.prog 21 #[.string S] w λr w'=>
 uV w' w.heap.size r S/\Below w.heap.size w w':=by
 have kd:=hg.size;have iw:Below w.heap.size w (w.alloc (.cells #[.int .i64 0,.int .i64 0] 72)):=(ag _ _).alloc (af _) _;have HT:=hide (Pf S (w.alloc (.cells #[.int .i64 0,.int .i64 0] 72)) hS (hg.below iw kd));have HO:=hide (ho.below iw (by omega));have GU:=hide (ai w (.cells #[.int .i64 0,.int .i64 0] 72));have wE:=hide iw;clear hg ho iw;go_enter Tryz.func21,Tryz.ntmps21;go_wp2_with fail;refine (ae HT).mono ?_;rintro r w1 ⟨v1,rfl,br,bL⟩;have sV:=(bL.block w.heap.size (by simp)).trans (ae GU);have nN:w.heap.size+1<=w1.heap.size:=by have:=bL.size;simpa using this
 obtain ⟨va,vc,hv1⟩:=kI br;have bO:Below w1.heap.size w1 (w1.alloc (.cells #[v1,.int .i64 0,.int .i64 0,.int .i64 0,.int .i64 0] 98)):=(ag _ _).alloc (af _) _;have ke:=((ae HO).below bL (by simp;omega)).below bO (by omega);have sY:(w1.alloc (.cells #[v1,.int .i64 0,.int .i64 0,.int .i64 0,.int .i64 0] 98)).ownsRow 0 102 4 v1 (dB S 0).length (wO (dB S 0)):=cL (tS br (λg _ h=>bO.block g h)) (aN _);have hP0:cO (w1.alloc (.cells #[v1,.int .i64 0,.int .i64 0,.int .i64 0,.int .i64 0] 98)) w1.heap.size ⟨v1,0,0,0,0⟩ (Mode.of (dB S 0)) (dB S 0):=
  cO.begin hS (ai w1 _) sY (λe=>by have:=(br.lt _ e).2;omega)
 have HC:=hide (Ql hP0 ke (by omega) rfl);have HP0:=hide (PG.start hP0);have jg:=hide (((ae wE).trans (bL.mono (by simp))).trans (bO.mono (by omega)));have xY:=hide ((bO.block w.heap.size (by omega)).trans sV);have jv:w1.heap.size<(w1.alloc (.cells #[v1,.int .i64 0,.int .i64 0,.int .i64 0,.int .i64 0] 98)).heap.size:=by simp
 rw [hv1] at HC HP0 jg xY jv ⊢;clear br bL sV hv1 bO ke sY hP0;go_wp2_with fail;refine (ae HC).mono ?_;rintro r w3 ⟨v,rfl,hif,S3,hc⟩;obtain ⟨x3,l3,A3⟩:=(ae HP0).call S3;have yE:=hide A3;have hz3:=A3.keeps.size;rcases hif with rfl|⟨tv,uv,rfl⟩
 . have HIF:=hide (show pM .nilIface from .inl rfl)
   have OY:(aV (Mode.of (dB S 0))).2.alive->mj w3 (w1.alloc (.cells #[.slice va (dB S 0).length vc,.int .i64 0,.int .i64 0,.int .i64 0,.int .i64 0] 98)).heap.size .nilIface (aV (Mode.of (dB S 0))).1:=hc;have Ps:=hide OY;clear S3 A3 hc OY;go_wp2_with fail;refine (uL (ae yE).bN).mono ?_;rintro r w4 ⟨rfl,me⟩;have CO:=hide ((ae yE).below me);have Cq:=hide me;obtain ⟨M,hM⟩:∃M,M=(aV (Mode.of (dB S 0))).2:=⟨_,rfl⟩;have TI:=hide hM;rw [<- hM] at CO ⊢;have iP:=Jz (ae CO).bN.xF;have Rk:∀w,(Instr.field 102 (.agg #[.int .i64 (aB M.tk),.int .i64 M.place,.string (bn M.tk),.int .i64 (dt M.tk)]) 0).run Tryz.prog w=.ok (.int .i64 (aB M.tk)) w:=λw=>zj _ _ _ _ w;clear me hM;by_cases hz:aB M.tk=0
   . obtain ⟨he,pJ⟩:=iP.1 hz
     have hzi:((aB M.tk:Int) != 0)=false:=by rw [hz];rfl
     have HM4:=hide (show cO w4 w1.heap.size x3 (zC (aV (Mode.of (dB S 0))).2) l3 from by rw [<- ae TI,he];exact (ae CO).bN);have qK:=hide (show (zC (aV (Mode.of (dB S 0))).2).alive->(aV (Mode.of (dB S 0))).2.alive from λ_=>by rw [<- ae TI];exact pJ);have Y2:=hide (show (aV (Mode.of (dB S 0))).2.alive->mj ((w4.setCell ⟨w.heap.size,0,none⟩ (.int .i64 (x3.e:Nat))).setCell ⟨w.heap.size,1,none⟩ (.int .i64 (x3.b:Nat))) w.heap.size .nilIface (aV (Mode.of (dB S 0))).1 from λha=>((ae Ps ha).keep (λg h1 h2=>by
      have RM:g≠w.heap.size:=by omega
      exact (aD _ _ _ _ RM).trans ((aD _ _ _ _ RM).trans ((ae Cq).block g h2)))).lower (by omega))
     clear iP he pJ hz;have h4:=(ae CO);have c3:=h4.bN.bN.cell 3;have c4:=h4.bN.bN.cell 4;have p3:w4.cell? ⟨w1.heap.size,3,none⟩=some (.int .i64 (x3.e:Nat)):=c3;have p4:w4.cell? ⟨w1.heap.size,4,none⟩=some (.int .i64 (x3.b:Nat)):=c4;have hR:=(h4.keeps.block w.heap.size ⟨by omega,by omega⟩).trans (ae xY);obtain ⟨q0,q1⟩:=hY hR;have z0:=aK hR 0;have z1:=aK hR 1;have hE:=xQ (w':=(w4.setCell ⟨w.heap.size,0,none⟩ (.int .i64 (x3.e:Nat))).setCell ⟨w.heap.size,1,none⟩ (.int .i64 (x3.b:Nat))) (base:=w.heap.size) hS (ae HM4) (ae HIF) (ae Y2) (ae qK);have HE:=hide hE;have HBF:=hide (show Below w.heap.size w ((w4.setCell ⟨w.heap.size,0,none⟩ (.int .i64 (x3.e:Nat))).setCell ⟨w.heap.size,1,none⟩ (.int .i64 (x3.b:Nat))) from uW (oQ (ae jg) h4.keeps (by omega)) _ _);have iq:¬(w1.heap.size=w.heap.size):=by omega
     clear h4 c3 c4 hR hE;unfold iZ;go_wp2_with fail;go_region
     all_goals
      (try go_wp2_with fail)
      (try simp only [Exit.inBlock,Exit.then])
      refine ay (v:=.tuple #[.nilIface,.agg #[.int .i64 (x3.e:Nat),.int .i64 (x3.b:Nat)]]) (by simp [results,Tryz.results21,go_sem,q0,q1];try rfl) rfl ?_;exact ⟨(ae HE).drew,aJ (ae HBF)⟩
   . have he:=iP.2 hz
     have hzi:((aB M.tk:Int) != 0)=true:=by rw [gy];omega
     have HHE:=hide he;clear iP he hz;unfold iZ;go_wp2_with fail;refine (uL (ae CO).bN).mono ?_;rintro r w5 ⟨rfl,vz⟩;have He:=hide ((ae CO).below vz);have Y3:=hide vz;have SN:=hide (mX ((ae CO).below vz).bN M.tk M.place);clear vz;unfold iZ at SN ⊢;go_wp2_with fail;refine (ae SN).mono ?_;rintro r w6 ⟨rfl,S6⟩;obtain ⟨x6,l6,A6⟩:=(ae He).call S6;have HA6:=hide A6;have HM6:=hide (show cO w6 w1.heap.size x6 (zC (aV (Mode.of (dB S 0))).2) l6 from by rw [<- ae TI,ae HHE];exact A6.bN);have qK:=hide (show (zC (aV (Mode.of (dB S 0))).2).alive->(aV (Mode.of (dB S 0))).2.alive from λha=>by
      rw [<- ae TI,ae HHE] at ha;exact absurd ha (cj M 2))
     have Y2:=hide (show (aV (Mode.of (dB S 0))).2.alive->mj ((w6.setCell ⟨w.heap.size,0,none⟩ (.int .i64 (x6.e:Nat))).setCell ⟨w.heap.size,1,none⟩ (.int .i64 (x6.b:Nat))) w.heap.size .nilIface (aV (Mode.of (dB S 0))).1 from λha=>((ae Ps ha).keep (λg h1 h2=>by
      have RM:g≠w.heap.size:=by omega
      have zG:g<w5.heap.size:=aF (aF h2 (ae Cq).size) (ae Y3).size;exact (aD _ _ _ _ RM).trans ((aD _ _ _ _ RM).trans ((S6.keeps.block g ⟨by omega,zG⟩).trans (((ae Y3).block g (aF h2 (ae Cq).size)).trans ((ae Cq).block g h2)))))).lower (by omega))
     clear S6 A6;have h6:=(ae HA6);have c3:=h6.bN.bN.cell 3;have c4:=h6.bN.bN.cell 4;have p3:w6.cell? ⟨w1.heap.size,3,none⟩=some (.int .i64 (x6.e:Nat)):=c3;have p4:w6.cell? ⟨w1.heap.size,4,none⟩=some (.int .i64 (x6.b:Nat)):=c4;have hR:=(h6.keeps.block w.heap.size ⟨by omega,by omega⟩).trans (ae xY);obtain ⟨q0,q1⟩:=hY hR;have z0:=aK hR 0;have z1:=aK hR 1;have hE:=xQ (w':=(w6.setCell ⟨w.heap.size,0,none⟩ (.int .i64 (x6.e:Nat))).setCell ⟨w.heap.size,1,none⟩ (.int .i64 (x6.b:Nat))) (base:=w.heap.size) hS (ae HM6) (ae HIF) (ae Y2) (ae qK);have HE:=hide hE;have HBF:=hide (show Below w.heap.size w ((w6.setCell ⟨w.heap.size,0,none⟩ (.int .i64 (x6.e:Nat))).setCell ⟨w.heap.size,1,none⟩ (.int .i64 (x6.b:Nat))) from uW (oQ (ae jg) h6.keeps (by omega)) _ _);have iq:¬(w1.heap.size=w.heap.size):=by omega
     clear h6 c3 c4 hR hE;go_wp2_with fail;go_region
     all_goals
      (try go_wp2_with fail)
      (try simp only [Exit.inBlock,Exit.then])
      refine ay (v:=.tuple #[.nilIface,.agg #[.int .i64 (x6.e:Nat),.int .i64 (x6.b:Nat)]]) (by simp [results,Tryz.results21,go_sem,q0,q1];try rfl) rfl ?_;exact ⟨(ae HE).drew,aJ (ae HBF)⟩
 . have HIF:=hide (show pM (.iface tv uv) from .inr ⟨_,_,rfl⟩)
   have OY:(aV (Mode.of (dB S 0))).2.alive->mj w3 (w1.alloc (.cells #[.slice va (dB S 0).length vc,.int .i64 0,.int .i64 0,.int .i64 0,.int .i64 0] 98)).heap.size (.iface tv uv) (aV (Mode.of (dB S 0))).1:=hc;have Ps:=hide OY;clear S3 A3 hc OY;go_wp2_with fail;refine (uL (ae yE).bN).mono ?_;rintro r w4 ⟨rfl,me⟩;have CO:=hide ((ae yE).below me);have Cq:=hide me;obtain ⟨M,hM⟩:∃M,M=(aV (Mode.of (dB S 0))).2:=⟨_,rfl⟩;have TI:=hide hM;rw [<- hM] at CO ⊢;have iP:=Jz (ae CO).bN.xF;have Rk:∀w,(Instr.field 102 (.agg #[.int .i64 (aB M.tk),.int .i64 M.place,.string (bn M.tk),.int .i64 (dt M.tk)]) 0).run Tryz.prog w=.ok (.int .i64 (aB M.tk)) w:=λw=>zj _ _ _ _ w;clear me hM;by_cases hz:aB M.tk=0
   . obtain ⟨he,pJ⟩:=iP.1 hz
     have hzi:((aB M.tk:Int) != 0)=false:=by rw [hz];rfl
     have HM4:=hide (show cO w4 w1.heap.size x3 (zC (aV (Mode.of (dB S 0))).2) l3 from by rw [<- ae TI,he];exact (ae CO).bN);have qK:=hide (show (zC (aV (Mode.of (dB S 0))).2).alive->(aV (Mode.of (dB S 0))).2.alive from λ_=>by rw [<- ae TI];exact pJ);have Y2:=hide (show (aV (Mode.of (dB S 0))).2.alive->mj ((w4.setCell ⟨w.heap.size,0,none⟩ (.int .i64 (x3.e:Nat))).setCell ⟨w.heap.size,1,none⟩ (.int .i64 (x3.b:Nat))) w.heap.size (.iface tv uv) (aV (Mode.of (dB S 0))).1 from λha=>((ae Ps ha).keep (λg h1 h2=>by
      have RM:g≠w.heap.size:=by omega
      exact (aD _ _ _ _ RM).trans ((aD _ _ _ _ RM).trans ((ae Cq).block g h2)))).lower (by omega))
     clear iP he pJ hz;have h4:=(ae CO);have c3:=h4.bN.bN.cell 3;have c4:=h4.bN.bN.cell 4;have p3:w4.cell? ⟨w1.heap.size,3,none⟩=some (.int .i64 (x3.e:Nat)):=c3;have p4:w4.cell? ⟨w1.heap.size,4,none⟩=some (.int .i64 (x3.b:Nat)):=c4;have hR:=(h4.keeps.block w.heap.size ⟨by omega,by omega⟩).trans (ae xY);obtain ⟨q0,q1⟩:=hY hR;have z0:=aK hR 0;have z1:=aK hR 1;have hE:=xQ (w':=(w4.setCell ⟨w.heap.size,0,none⟩ (.int .i64 (x3.e:Nat))).setCell ⟨w.heap.size,1,none⟩ (.int .i64 (x3.b:Nat))) (base:=w.heap.size) hS (ae HM4) (ae HIF) (ae Y2) (ae qK);have HE:=hide hE;have HBF:=hide (show Below w.heap.size w ((w4.setCell ⟨w.heap.size,0,none⟩ (.int .i64 (x3.e:Nat))).setCell ⟨w.heap.size,1,none⟩ (.int .i64 (x3.b:Nat))) from uW (oQ (ae jg) h4.keeps (by omega)) _ _);have iq:¬(w1.heap.size=w.heap.size):=by omega
     clear h4 c3 c4 hR hE;unfold iZ;go_wp2_with fail;go_region
     all_goals
      (try go_wp2_with fail)
      (try simp only [Exit.inBlock,Exit.then])
      refine ay (v:=.tuple #[(.iface tv uv),.agg #[.int .i64 (x3.e:Nat),.int .i64 (x3.b:Nat)]]) (by simp [results,Tryz.results21,go_sem,q0,q1];try rfl) rfl ?_;exact ⟨(ae HE).drew,aJ (ae HBF)⟩
   . have he:=iP.2 hz
     have hzi:((aB M.tk:Int) != 0)=true:=by rw [gy];omega
     have HHE:=hide he;clear iP he hz;unfold iZ;go_wp2_with fail;refine (uL (ae CO).bN).mono ?_;rintro r w5 ⟨rfl,vz⟩;have He:=hide ((ae CO).below vz);have Y3:=hide vz;have SN:=hide (mX ((ae CO).below vz).bN M.tk M.place);clear vz;unfold iZ at SN ⊢;go_wp2_with fail;refine (ae SN).mono ?_;rintro r w6 ⟨rfl,S6⟩;obtain ⟨x6,l6,A6⟩:=(ae He).call S6;have HA6:=hide A6;have HM6:=hide (show cO w6 w1.heap.size x6 (zC (aV (Mode.of (dB S 0))).2) l6 from by rw [<- ae TI,ae HHE];exact A6.bN);have qK:=hide (show (zC (aV (Mode.of (dB S 0))).2).alive->(aV (Mode.of (dB S 0))).2.alive from λha=>by
      rw [<- ae TI,ae HHE] at ha;exact absurd ha (cj M 2))
     have Y2:=hide (show (aV (Mode.of (dB S 0))).2.alive->mj ((w6.setCell ⟨w.heap.size,0,none⟩ (.int .i64 (x6.e:Nat))).setCell ⟨w.heap.size,1,none⟩ (.int .i64 (x6.b:Nat))) w.heap.size (.iface tv uv) (aV (Mode.of (dB S 0))).1 from λha=>((ae Ps ha).keep (λg h1 h2=>by
      have RM:g≠w.heap.size:=by omega
      have zG:g<w5.heap.size:=aF (aF h2 (ae Cq).size) (ae Y3).size;exact (aD _ _ _ _ RM).trans ((aD _ _ _ _ RM).trans ((S6.keeps.block g ⟨by omega,zG⟩).trans (((ae Y3).block g (aF h2 (ae Cq).size)).trans ((ae Cq).block g h2)))))).lower (by omega))
     clear S6 A6;have h6:=(ae HA6);have c3:=h6.bN.bN.cell 3;have c4:=h6.bN.bN.cell 4;have p3:w6.cell? ⟨w1.heap.size,3,none⟩=some (.int .i64 (x6.e:Nat)):=c3;have p4:w6.cell? ⟨w1.heap.size,4,none⟩=some (.int .i64 (x6.b:Nat)):=c4;have hR:=(h6.keeps.block w.heap.size ⟨by omega,by omega⟩).trans (ae xY);obtain ⟨q0,q1⟩:=hY hR;have z0:=aK hR 0;have z1:=aK hR 1;have hE:=xQ (w':=(w6.setCell ⟨w.heap.size,0,none⟩ (.int .i64 (x6.e:Nat))).setCell ⟨w.heap.size,1,none⟩ (.int .i64 (x6.b:Nat))) (base:=w.heap.size) hS (ae HM6) (ae HIF) (ae Y2) (ae qK);have HE:=hide hE;have HBF:=hide (show Below w.heap.size w ((w6.setCell ⟨w.heap.size,0,none⟩ (.int .i64 (x6.e:Nat))).setCell ⟨w.heap.size,1,none⟩ (.int .i64 (x6.b:Nat))) from uW (oQ (ae jg) h6.keeps (by omega)) _ _);have iq:¬(w1.heap.size=w.heap.size):=by omega
     clear h6 c3 c4 hR hE;go_wp2_with fail;go_region
     all_goals
      (try go_wp2_with fail)
      (try simp only [Exit.inBlock,Exit.then])
      refine ay (v:=.tuple #[(.iface tv uv),.agg #[.int .i64 (x6.e:Nat),.int .i64 (x6.b:Nat)]]) (by simp [results,Tryz.results21,go_sem,q0,q1];try rfl) rfl ?_;exact ⟨(ae HE).drew,aJ (ae HBF)⟩
end Go.Proofs.YteniahoehoncjaaGreatDoor
