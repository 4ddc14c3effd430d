import Derived.Test.YteniahoehoncjaaGreatDoorQAE
import Derived.Test.YteniahoehoncjaaGreatDoorQAD
set_option maxHeartbeats 99999999
set_option maxRecDepth 100000
namespace Go.Proofs.YteniahoehoncjaaGreatDoor
open Go.RowKit
theorem Tryz.Wt:(Tryz.prog.info? 217).map (λi=>(i.zero,i.size,i.bytes))=some (some (.agg #[.string ByteArray.empty,.int .i64 0,.int .i64 0,.int .i64 0,.int .i64 0,.int .i64 0,.string ByteArray.empty]),7,72):=by kernel_rfl
theorem info_parts {P:Program}{t:TypeId}{z:Value}{sz by':Nat}(h:(P.info? t).map (λi=>(i.zero,i.size,i.bytes))=some (some z,sz,by')):∃i,P.info? t=some i/\i.zero=some z/\i.size=sz/\i.bytes=by':=by
 cases hi:P.info? t with
 |none=>rw [hi] at h;simp at h
 |some i=>
   rw [hi] at h;simp at h;exact ⟨i,rfl,h.1,h.2.1,h.2.2⟩
theorem aag (n:jA):∀u∈rX n,u.oneCell'=true:=by
 intro u hu;simp [rX] at hu;rcases hu with rfl|rfl|rfl|rfl|rfl|rfl|rfl<;>rfl
theorem fX.ahX {K:Nat->Prop}{w W w2:World}{p:Nat}{x:eT}{m:Mode}{ns:List jA}{n:jA}{g cap:Nat}(h:fX K w p x m ns)(hB:Below w.heap.size w W)(hZ:W.heap.size=w.heap.size+2)
 (ho:w2.ownsRow 0 217 7 (.slice (some ⟨g,0,none⟩) (ns.length+1) cap) (ns.length+1) (nH ns++rX n)) (hg:W.grownBy w2 x.nodes.ownBlock) (tu:x.nodes.ownBlock=some g\/g=w.heap.size+2) :
 fX K (w2.setCell ⟨p,19,none⟩ (.slice (some ⟨g,0,none⟩) (ns.length+1) cap)) p { x with nodes:=.slice (some ⟨g,0,none⟩) (ns.length+1) cap } m (ns++[n])/\
 aQ K w (w2.setCell ⟨p,19,none⟩ (.slice (some ⟨g,0,none⟩) (ns.length+1) cap)):=by
 have cF:=h.pen.lt;have QJ:g≠p:=by
  rcases tu with h'|h'
  . intro e;subst e;exact h.apart h'
  . omega
 have hgK:¬K g:=by
  rcases tu with h'|h'
  . exact h.kv g h'
  . intro hk;have:=h.old g hk;omega
 have hKW:aQ K w W:=aQ.nP ⟨hB.os,hB.tape,hB.output,hB.size,λk hk _=>hB.block k hk⟩ h.old;have hK2:aQ K w w2:=hKW.grown hg (λk hk=>by have:=h.old k hk;omega) (λk e=>h.kv k e);have hK3:=hK2.setCell (p:=⟨p,19,none⟩) h.kp (.slice (some ⟨g,0,none⟩) (ns.length+1) cap);have hP2:qw w2 p x:=h.pen.eo ((hg.block p (by omega) (λe=>h.apart e.symm)).trans (hB.block p cF));have aqp:Laid w2:=by
  intro i s hs;exact (hK2.cell (p:=⟨0,i,none⟩) h.k0).trans (h.laid i s hs)
 refine ⟨⟨hP2.set 19 _ (by simp [gX]),?_,h.p0,h.zm,h.pos,h.tk,h.tn,h.tp,?_,?_,?_,h.k0,h.kp,?_,?_⟩,hK3⟩
 . intro i s hs
   exact (hK3.cell (p:=⟨0,i,none⟩) h.k0).trans (h.laid i s hs)
 . have:=h.mode
   cases m<;>exact this
 . rw [au,Ms]
   exact ho.kept (grownBy_setCell w2 ⟨p,19,none⟩ _) (.inr (by simp [Value.ownBlock,QJ]))
 . simp [Value.ownBlock,QJ]
 . intro g' Gp
   simp [Value.ownBlock] at Gp;subst Gp;exact hgK
 . intro k hk
   exact aF (h.old k hk) hK3.size
def Wu (x:jA):Value:=.agg #[.string x.op,.int .i64 x.pl,.int .i64 x.first,.int .i64 x.a,.int .i64 x.b,.int .i64 x.n,.string x.s]
theorem Rn {K:Nat->Prop}{w:World}{p:Nat}{x:eT}{m:Mode}{ns:List jA}(h:fX K w p x m ns)(n:jA)(yX:ns.length<=1000):Calls Tryz.prog 93 #[.pointer (some ⟨p,0,none⟩),Wu n] w λr w'=>
 r=.returned (.int .i64 ns.length)/\∃x',fX K w' p x' m (ns++[n])/\Rest x x'/\aQ K w w':=by
 obtain ⟨i0,hi,jS,jD,jv⟩:=info_parts Tryz.Wt;have c19:w.cell? ⟨p,19,none⟩=some x.nodes:=h.pen.cell 19;have f19:=h.pen.fz 19;have cF:=h.pen.lt;have H:=hide h;clear h;have atu:∀g,x.nodes.ownBlock=some g->g<w.heap.size:=λg hg=>((ae H).own.lt g hg).2;have t2:=DU w (.cells #[.string n.op,.int .i64 n.pl,.int .i64 n.first,.int .i64 n.a,.int .i64 n.b,.int .i64 n.n,.string n.s] 217 (0,0)) (.cells #[.string n.op,.int .i64 n.pl,.int .i64 n.first,.int .i64 n.a,.int .i64 n.b,.int .i64 n.n,.string n.s] 217 (0,0));have s1:=hide (World.news_of_block t2.2.2.1);have s2:=hide (aag n);have HO:=hide ((((ae H).own.alloc (.cells #[.string n.op,.int .i64 n.pl,.int .i64 n.first,.int .i64 n.a,.int .i64 n.b,.int .i64 n.n,.string n.s] 217 (0,0))).alloc (.cells #[.string n.op,.int .i64 n.pl,.int .i64 n.first,.int .i64 n.a,.int .i64 n.b,.int .i64 n.n,.string n.s] 217 (0,0))).drew);have HB:=hide t2.1;have HZ:=hide t2.2.2.2;clear t2;unfold Wu;go_enter Tryz.func93,Tryz.ntmps93;go_wp2_with fail;go_region_law (refine step_append_lies _ rfl (.tmp 10) (.tmp 12) 39 rfl 0 217 i0 _ 7 72 Tryz.underlying39 hi jS jD jv rfl (by decide) _ _ _ (by simp [Act.eval]) (ae HO) ⟨w.heap.size+1,0,none⟩ 1 1 (rX n) (by simp [Act.eval]) rfl (ae s1) (ae s2) (by decide) (by unfold maxLen;omega) (by omega) (aN _) (w.heap.size+2) (ae HZ) ?_;intro g gcap w2 ke qF tu _;have ug:=hide ke;have HG2:=hide qF;have HGG:=hide tu;have k19:w2.cell? ⟨p,19,none⟩=some x.nodes:=(bJ (w':=w2) (a:=⟨p,19,none⟩) (qF.block p (by rw [ae HZ];omega) (λe=>(ae H).apart e.symm))).trans (((ae HB).cell (p:=⟨p,19,none⟩) cF).trans c19);have kf:w2.frozen? ⟨p,19,none⟩=false:=(bM (w':=w2) (a:=⟨p,19,none⟩) (qF.block p (by rw [ae HZ];omega) (λe=>(ae H).apart e.symm))).trans (((ae HB).frozen (p:=⟨p,19,none⟩) cF).trans f19);clear ke qF tu)
 all_goals
  go_wp2_with fail;go_ret;obtain ⟨q1,q2⟩:=fX.ahX (ae H) (ae HB) (ae HZ) (ae ug) (ae HG2) (ae HGG);exact ⟨rfl,_,q1,⟨rfl,rfl,rfl,rfl,rfl,rfl,rfl,rfl,rfl,rfl,rfl,rfl⟩,q2⟩
theorem Ay (ns:List jA)(a:Nat)(n:jA)(h:ns[a]?=some n):(nH ns)[a*7+2]?=some (.int .i64 n.first):=by
 rw [zk ns a 2 (by decide),h];rfl
theorem fX.slice {K:Nat->Prop}{w:World}{p:Nat}{x:eT}{m:Mode}{ns:List jA}(h:fX K w p x m ns)(hn:0<ns.length) :
 ∃g cap,x.nodes=.slice (some ⟨g,0,none⟩) ns.length cap/\∀j,j<ns.length*7->w.cell? ⟨g,j,none⟩=(nH ns)[j]?:=by
 rcases h.own.2 with ⟨_,h0⟩|⟨g,cap,_,hv,_⟩
 . omega
 . refine ⟨g,cap,hv,λj hj=>?_⟩
   have:=h.own;rw [hv] at this;exact this.cellAt j hj
theorem aec {K:Nat->Prop}{w:World}{p:Nat}{x:eT}{m:Mode}{ns:List jA}(h:fX K w p x m ns)(op:ByteArray)(pl a b:Nat)(na:jA)(ha:ns[a]?=some na)(yX:ns.length<=1000):Calls Tryz.prog 66 #[.pointer (some ⟨p,0,none⟩),.string op,.int .i64 pl,.int .i64 a,.int .i64 b] w λr w'=>
 r=.returned (.int .i64 ns.length)/\∃x',fX K w' p x' m (ns++[⟨op,pl,na.first,a,b,0,⟨#[]⟩⟩])/\Rest x x'/\aQ K w w':=by
 have pJ:a<ns.length:=(ak.mp ha).1;obtain ⟨g,cap,hv,hc⟩:=h.slice (by omega);have c19:w.cell? ⟨p,19,none⟩=some (.slice (some ⟨g,0,none⟩) ns.length cap):=(h.pen.cell 19).trans (by rw [<- hv];rfl);have cf:w.cell? ⟨g,a*7+2,none⟩=some (.int .i64 na.first):=(hc _ (by omega)).trans (Ay ns a na ha);have g1:(a:Int)<ns.length:=by omega
 have H:=hide h;clear h hc hv ha;go_enter Tryz.func66,Tryz.ntmps66;go_wp2_with fail;refine (Rn (ae H) ⟨op,pl,na.first,a,b,0,⟨#[]⟩⟩ yX).mono ?_;rintro r w1 ⟨rfl,x1,h1,h2,h4⟩;have H1:=hide h1;have H4:=hide h4;clear h1 h4;go_wp2_with fail;go_ret;exact ⟨rfl,x1,ae H1,h2,ae H4⟩
theorem Mw {K:Nat->Prop}{w:World}{p:Nat}{x:eT}{m:Mode}{ns:List jA}(h:fX K w p x m ns)(hd:x.deep=8):Calls Tryz.prog 123 #[.pointer (some ⟨p,0,none⟩)] w λr w'=>
 r=.returned (.bool false)/\∃x',fX K w' p x' (m.wrong 3) ns/\Rest x x'/\x'.nodes=x.nodes/\aQ K w w':=by
 have c4:w.cell? ⟨p,4,none⟩=some (.int .i64 x.tp):=h.pen.cell 4;have c8:w.cell? ⟨p,8,none⟩=some (.int .i64 x.deep):=h.pen.cell 8;have g2:(8:Int)<=x.deep:=by omega
 have H:=hide h;clear h;go_enter Tryz.func123,Tryz.ntmps123;go_wp2_with fail;refine (Ax (ae H) 3 x.tp (by decide)).mono ?_;rintro r w1 ⟨rfl,x1,h1,h2,h3,h4⟩;have H1:=hide h1;have H4:=hide h4;clear h1 h4;go_wp2_with fail;go_ret;refine ⟨rfl,x1,?_,h2,h3,ae H4⟩;rw [<- rY (ae H).mode];exact ae H1
theorem aah {K:Nat->Prop}{w:World}{p:Nat}{x:eT}{m:Mode}{ns:List jA}(h:fX K w p x m ns)(hm:∀t ts,m=.live t ts->t.k.ends=false)(h8:x.deep<8):Calls Tryz.prog 123 #[.pointer (some ⟨p,0,none⟩)] w λr w'=>
 r=.returned (.bool true)/\∃x',fX K w' p x' m.next ns/\Rest { x with deep:=x.deep+1 } x'/\x'.nodes=x.nodes/\aQ K w w':=by
 have c4:w.cell? ⟨p,4,none⟩=some (.int .i64 x.tp):=h.pen.cell 4;have c8:w.cell? ⟨p,8,none⟩=some (.int .i64 x.deep):=h.pen.cell 8;have f8:=h.pen.fz 8;have g2:¬(8:Int)<=x.deep:=by omega
 have hP:qw (w.setCell ⟨p,8,none⟩ (.int .i64 ((x.deep:Int)+1))) p { x with deep:=x.deep+1 }:=h.pen.set 8 _ (by simp [gX]);have hK:aQ (Other p w) w (w.setCell ⟨p,8,none⟩ (.int .i64 ((x.deep:Int)+1))):=(aQ.refl _ _).own 8 _;have hS:fX K (w.setCell ⟨p,8,none⟩ (.int .i64 ((x.deep:Int)+1))) p { x with deep:=x.deep+1 } m ns:=by
  refine ⟨hP,h.laid.keeps hK h.p0,h.p0,h.zm,h.pos,h.tk,h.tn,h.tp,?_,h.own.kept (grownBy_setCell w ⟨p,8,none⟩ _) (.inr h.apart),h.apart,h.k0,h.kp,h.kv,λk hk=>by simpa [World.setCell] using h.old k hk⟩;have:=h.mode
  cases m<;>exact this
 have HK:=hide (hK.mono h.other);have HS:=hide hS;clear hS hP hK h;go_enter Tryz.func123,Tryz.ntmps123;go_wp2_with fail;refine (DT (ae HS) hm).mono ?_;rintro r w1 ⟨rfl,x1,h1,h2,h3,h4⟩;have H1:=hide h1;have H4:=hide h4;clear h1 h4;go_wp2_with fail;go_ret;exact ⟨rfl,x1,ae H1,h2,h3,(ae HK).trans (ae H4)⟩
def Mode.alive:Mode->Prop
 |.live _ _=>True
 |.dead _ _=>False
def Mode.due:Mode->Nat
 |.live _ _=>0
 |.dead _ _=>1
theorem Ro {x:eT}{m:Mode}(h:zl x m){o:ByteArray}(ho:m.is o=true):x.tt=o/\x.tp=m.place/\m.alive/\(∀t ts,m=.live t ts->t.k.ends=false)/\m.next.len+1=m.len:=by
 cases m with
 |dead e b=>simp [Mode.is,Mode.tk] at ho
 |live t ts=>
   have Rl:=DV ho;obtain ⟨h1,h2,h3,h4,_⟩:=h;obtain ⟨k,pl⟩:=t;have ze:=h4 Rl;refine ⟨?_,h3,trivial,λt ts e=>by cases e;exact Rl,?_⟩
   . cases k<;>simp [Mode.is,Mode.tk,iQ] at ho<;>simp only [lN] at h2
     . exact h2.2.1.trans ho
     . exact h2.2.trans ho
   . have iq:=zU x.S x.pos
     rw [<- ze] at iq
     cases ts with
     |nil=>exact absurd rfl iq
     |cons u us=>rfl
theorem bG {m:Mode}:m.next.len<=m.len:=by
 cases m with
 |dead e b=>exact af _
 |live t ts=>cases ts<;>simp [Mode.next,Mode.len]
theorem lj {m:Mode}(h:¬m.alive):m.len=0/\m.due=1:=by
 cases m with
 |dead e b=>exact ⟨rfl,rfl⟩
 |live t ts=>exact absurd trivial h
theorem mL {m:Mode}(h:m.alive):m.due=0:=by
 cases m with
 |dead e b=>exact h.elim
 |live t ts=>rfl
theorem mM (m:Mode):m.due<=1:=by cases m<;>simp [Mode.due]
theorem cj (m:Mode)(e:Nat):¬(m.wrong e).alive:=by cases m<;>exact λh=>h
def lenOf:Value->Nat|.slice _ m _=>m|_=>0
theorem rA {link:Mode->Ex×Mode}{ops:List ByteArray}{f:Nat}{e:Ex}{m:Mode}{r:Ex×Mode}{o:ByteArray}(h:l9 link ops (f+1) e m=r)(ho:ops.find? (λo=>m.is o)=some o) :
 l9 link ops f (.two o m.place e (link m.next).1) (link m.next).2=r:=by
 rw [l9,ho] at h;exact h
theorem rB {link:Mode->Ex×Mode}{ops:List ByteArray}{f:Nat}{e:Ex}{m:Mode}(ho:ops.find? (λo=>m.is o)=none):l9 link ops f e m=(e,m):=by
 cases f with
 |zero=>rfl
 |succ f=>rw [l9,ho]
def vA (n:Nm):List Value:=[.string n.1,.int .i64 n.2]
def jF (l:List Nm):List Value:=l.flatMap vA
theorem CF (l:List Nm)(n:Nm):jF (l++[n])=jF l++vA n:=by simp [jF]
theorem cP (m:Mode):m.name.2.len<=m.len:=by
 unfold Mode.name;split
 . exact bG
 . rw [(lj (cj m 2)).1];omega
theorem lS {α:Type}{one:Mode->α×Mode}{f:Nat}{l:List α}{m:Mode}{r:List α×Mode}(h:fm one (f+1) l m=r)(hc:m.is kj=true):fm one f (l++[(one m.next).1]) (one m.next).2=r:=by
 rw [fm,aH hc] at h;exact h
theorem lT {α:Type}{one:Mode->α×Mode}{f:Nat}{l:List α}{m:Mode}(hc:m.is kj=false):fm one f l m=(l,m):=by
 cases f with
 |zero=>rfl
 |succ f=>rw [fm,aA (by rw [hc];decide)]
theorem fX.more {K K':Nat->Prop}{w:World}{p:Nat}{x:eT}{m:Mode}{ns:List jA}(h:fX K w p x m ns)(h0:K' 0)(hK:∀k,K' k->K k\/(k≠p/\x.nodes.ownBlock≠some k/\k<w.heap.size)):fX K' w p x m ns:=
 ⟨h.pen,h.laid,h.p0,h.zm,h.pos,h.tk,h.tn,h.tp,h.mode,h.own,h.apart,h0,
  λhk=>by rcases hK p hk with h'|h';exact h.kp h';exact h'.1 rfl,
  λg hg hk=>by rcases hK g hk with h'|h';exact h.kv g hg h';exact h'.2.1 hg,
  λk hk=>by rcases hK k hk with h'|h';exact h.old k h';exact h'.2.2⟩
set_option linter.unusedSimpArgs false in
theorem aeo {a b:World} {lo q q2 q3:Nat} {t t2 t3:TypeId} {fv gv:Value} {ok:List aL->Prop} {F G:List aL->dQ} {s:Bool} (hc:ef a lo fv ok F) (UT:ef a lo gv ok G) (hF:∀row,ok row->∀c,F row=.inl c->tg c) (hG:∀row,ok row->∀c,G row=.inl c->tg c) (hk:jy lo a.heap.size a b) (hq:b.heap[q]?=some (.cells #[fv] t (0,0))) (Cw:b.heap[q2]?=some (.cells #[.bool false,.int .i64 (jr s).n,.string ⟨#[]⟩,.bool false] t2 (0,0))) (Hc:b.heap[q3]?=some (.cells #[gv] t3 (0,0))) {bv rv:Value} {cs:List (List aL)} {rows:List Nat} (hb:iC b bv cs) (hr:kF b rv rows) (mC:yQ cs rows) (hl:rows.length<=64) (kW:∀r∈rows,ok (rowOf cs r)) :
 Calls Tryz.prog 265 #[bv,rv,.pointer (some ⟨q,0,none⟩),.pointer (some ⟨q2,0,none⟩),.pointer (some ⟨q3,0,none⟩)] b λr b'=>∃v,r=.returned v/\b'.ownsRow b.heap.size 247 4 v rows.length ((rows.map λr=>iU s (F (rowOf cs r)) (G (rowOf cs r))).flatMap iD)/\Below b.heap.size b b':=by
 obtain ⟨n,iJ,rfl,hE,hC⟩:=hc;obtain ⟨n1,wH,rfl,hE1,hC1⟩:=UT;have HC:=hide (hC b hk bv cs rv rows hb hr mC hl kW);have NS:=hide (λw (bL:Below b.heap.size b w) ov (Rx:List Nat) (h1:kF w ov Rx) (h2:∀r∈Rx,r∈rows) (h3:Rx.length<=64)=>hC1 w (hk.below bL) bv cs ov Rx (hb.below bL (af _)) h1 (λr h=>mC r (h2 r h)) h3 (λr h=>kW r (h2 r h)));have HF:=hide (λr (h:r∈rows)=>hF _ (kW r h));have HG:=hide (λr (h:r∈rows)=>hG _ (kW r h));have HR:=hide hr;obtain ⟨ra,Ad,QZ⟩:=bF.slice hr;subst QZ;have VR:=hide Cw;have HQ3:=hide Hc;have c0:=cell0 hq 0;simp at c0;have V6:=az Cw;have V7:=az Hc;unfold Enters at hE hE1;clear hC hC1 hk hb hr hq Cw Hc mC kW hF hG;go_enter Tryz.func265,Tryz.ntmps265;go_wp2_with fail;refine (ae HC).mono ?_;rintro e w1 ⟨v,rfl,br,bL⟩;obtain ⟨va,cJ,rfl,Eu,GH⟩:=di br;have HS0:Hid (Af b w1 w1 (.slice va rows.length cJ) s (λr=>F (rowOf cs r)) rows 0 (.slice none 0 0) (.slice none 0 0)):=hide ⟨br,by simpa [opens] using ia _ _ _ _,by simpa [opens] using ia _ _ _ _,λk h=>(by cases h),λk h=>(uC br h).2,bL,af _,bL.size⟩;have HVA:=hide Eu;clear br bL Eu HC c0;go_wp2_with fail;go_loopw [9,10,22] (λc0 c1 c2 wr=>∃(i:Nat) (ao:Option Addr) (co:Nat) (ar:Option Addr) (cr:Nat),i<=rows.length/\c0=.slice ao (opens s (λr=>F (rowOf cs r)) rows i).length co/\c1=.slice ar (opens s (λr=>F (rowOf cs r)) rows i).length cr/\c2=.int .i64 i/\Hid (Af b w1 wr (.slice va rows.length cJ) s (λr=>F (rowOf cs r)) rows i (.slice ao (opens s (λr=>F (rowOf cs r)) rows i).length co) (.slice ar (opens s (λr=>F (rowOf cs r)) rows i).length cr))) (λ_ _ c _=>rows.length - (intOf c).toNat)
 case atStart=>exact ⟨0,none,0,none,0,aN _,rfl,rfl,rfl,HS0⟩
 case round=>
  obtain ⟨i,ao,co,ar,cr,hi,rfl,rfl,rfl,HA⟩:=hrel;by_cases cF:i<rows.length
  . have jI:(i:Int)<rows.length:=by omega
    obtain ⟨g,rfl,hg⟩:=ae HVA (by omega);obtain ⟨r,yR⟩:∃r,rows[i]?=some r:=⟨rows[i],ah cF⟩;have oy:=aG yR;have Bj:=hide yR;have jM:(rows.map λr=>F (rowOf cs r))[i]?=some (F (rowOf cs r)):=by rw [a7,yR];rfl
    have hol:=Iy s (λr=>F (rowOf cs r)) rows i;obtain ⟨x1,y1,z1,e1,o7,-⟩:=gE (F (rowOf cs r));obtain ⟨⟨d0,d1,d2,d3⟩,fz⟩:=jK (ae HA).out jM o7;obtain ⟨o1,yW⟩:∃o,o=Obj.cells #[.bool x1,.int .i64 y1,.string z1,.bool e1] 247:=⟨_,rfl⟩;have Gr:=hide ((ae HA).alloc o1);have Kz:=((ae Gr).K8.block q2 V6).trans (ae VR);have s0:=cell0 Kz 0;have s1:=cell0 Kz 1;have s2:=cell0 Kz 2;have s3:=cell0 Kz 3;simp only [List.getElem?_toArray,List.getElem?_cons_zero,List.getElem?_cons_succ] at s0 s1 s2 s3;have WB:Hid (qy s (F (rowOf cs r))=false->∃(j:Nat) (ao':Option Addr) (co':Nat) (ar':Option Addr) (cr':Nat),j<=rows.length/\Value.slice ao (opens s (λr=>F (rowOf cs r)) rows i).length co=.slice ao' (opens s (λr=>F (rowOf cs r)) rows j).length co'/\Value.slice ar (opens s (λr=>F (rowOf cs r)) rows i).length cr=.slice ar' (opens s (λr=>F (rowOf cs r)) rows j).length cr'/\Value.int .i64 ((i:Int)+1)=.int .i64 j/\Hid (Af b w1 (wr.alloc o1) (.slice (some ⟨g,0,none⟩) rows.length cJ) s (λr=>F (rowOf cs r)) rows j (.slice ao' (opens s (λr=>F (rowOf cs r)) rows j).length co') (.slice ar' (opens s (λr=>F (rowOf cs r)) rows j).length cr'))):=hide (λh=>by
     have e:opens s (λr=>F (rowOf cs r)) rows (i+1)=opens s (λr=>F (rowOf cs r)) rows i:=by rw [uB (ae Bj)];simp [h]
     refine ⟨i+1,ao,co,ar,cr,by omega,by rw [e],by rw [e],by push_cast;rfl,hide ?_⟩;have h1:=ae Gr;exact ⟨h1.out,by rw [e];exact h1.op,by rw [e];exact h1.rw',by rw [e];exact h1.sep,h1.old,h1.K8,h1.sz,h1.bsz⟩)
    cases hf:F (rowOf cs r) with
    |inr e=>
      rw [hf] at o7;simp [iD] at o7;obtain ⟨rfl,rfl,rfl,rfl⟩:=o7;have HN:=hide (ae WB (by rw [hf];rfl));clear hf yR jM oy WB;subst yW;go_wp2_with fail;go_roundw
      case rel=>exact ae HN
      case measure=>simp [intOf];omega
    |inl c=>
      have hbc:=ae HF r oy c hf;rw [hf] at o7;by_cases nx:qy s (F (rowOf cs r))=true
      . have Hd:=hide nx
        rw [hf] at nx;obtain ⟨g2,o2,uy,V2,c4⟩:=kF.get (bF.below (ae HR) (ae Gr).K8 (af _)) (ae Bj)
        cases V2
        have HIR:=hide (λw (ph:Below b.heap.size b w)=>kF.get (bF.below (ae HR) ph (af _)) (ae Bj));clear hf yR jM oy WB;rcases hbc with rfl|rfl|rfl<;>cases s<;>first
         | (simp [qy,Sp,eW,oA] at nx;done)
         | (clear nx
            simp [iD,eW,oA] at o7;obtain ⟨rfl,rfl,rfl,rfl⟩:=o7;subst yW;simp [jr,oA] at s1;go_wp2_with (at_builtin;refine QW rfl _ _ 36 rfl (base:=w1.heap.size) Tryz.underlying36 Tryz.Ae ⟨rfl,by decide,by decide⟩ rfl (ae Gr).op rfl (by simp) rfl ?k5 ?k6 ?k7 ?_)
            case k5=>simp [Value.oneCell']
            case k6=>omega
            case k7=>exact (ae Gr).sz
            intro g3 G8 w3 ld ja rV;have px:Hid (Below b.heap.size b w3):=hide (((ae Gr).K8.alloc (ae Gr).K8.size _).grown ja (by simp;have:=(ae HA).K8.size;omega) (λk hk=>aw (ae HA).bsz (uC (ae Gr).op hk).1));have HRW:Hid (w3.ownsRow w1.heap.size 3 1 (.slice ar (opens _ (λr=>F (rowOf cs r)) rows i).length cr) (opens _ (λr=>F (rowOf cs r)) rows i).length ((opens _ (λr=>F (rowOf cs r)) rows i).map λp=>kZ p.1)):=hide (dJ ((ae Gr).rw'.alloc _) ja (λk hk=>(ae Gr).sep k hk));have HSZ:Hid (w1.heap.size<=w3.heap.size):=hide (by have:=ja.size;simp at this;have:=(ae HA).sz;omega);obtain ⟨g4,o4,atC,he4,c5⟩:=ae HIR w3 (ae px)
            cases he4
            have HP1:=hide ld;have HP2:=hide ja;have HP3:=hide rV;clear ld ja rV;go_wp2_with (at_builtin;refine QW rfl _ _ 36 rfl (base:=w1.heap.size) Tryz.underlying36 Tryz.Ae ⟨rfl,by decide,by decide⟩ rfl (ae HRW) rfl (by simp) rfl ?k5 ?k6 ?k7 ?_)
            case k5=>simp [Value.oneCell']
            case k6=>omega
            case k7=>exact ae HSZ
            intro g5 atF w5 ab6 WC ab7;have HN:=hide ((ae Gr).push (ae Bj) (ae Hd) (ae HP1) (ae HP2) (by simpa using ae HP3) ab6 WC ab7);have UE:Hid ((opens _ (λr=>F (rowOf cs r)) rows (i+1)).length=(opens _ (λr=>F (rowOf cs r)) rows i).length+1):=hide (by rw [uB (ae Bj),aH (ae Hd)];simp;rfl);clear ab6 WC ab7;go_wp2_with fail;go_roundw
            case rel=>exact ⟨i+1,_,_,_,_,by omega,by rw [ae UE],by rw [ae UE],by push_cast;rfl,HN⟩
            case measure=>simp [intOf];omega)
      . have aaq:qy s (F (rowOf cs r))=false:=by simpa using nx
        have HN:=hide (ae WB aaq);rw [hf] at aaq;clear hf yR jM oy WB nx;rcases hbc with rfl|rfl|rfl<;>cases s<;>first
         | (simp [qy,Sp,eW,oA] at aaq;done)
         | (clear aaq
            simp [iD,eW,oA] at o7;obtain ⟨rfl,rfl,rfl,rfl⟩:=o7;subst yW;simp [jr,oA] at s1;go_wp2_with fail;go_roundw
            case rel=>exact ae HN
            case measure=>simp [intOf];omega)
  . obtain rfl:i=rows.length:=by omega
    obtain ⟨ops,Dp⟩:∃l,l=opens s (λr=>F (rowOf cs r)) rows rows.length:=⟨_,rfl⟩;have hol:=Iy s (λr=>F (rowOf cs r)) rows rows.length;have ah7:=hide (λp (h:p∈ops)=>Sr (by rw [Dp] at h;exact h));have HND:=hide (show ops.Pairwise λa b=>a.2<b.2 from by rw [Dp];exact LK);have E5:=hide (VU (s:=s) (F:=λr=>F (rowOf cs r)) (G:=λr=>G (rowOf cs r)) (rows:=rows));rw [<- Dp] at E5 hol;have ha:=ae HA;have Hd:Hid (wr.ownsRow w1.heap.size 3 1 (.slice ao ops.length co) ops.length (ops.map λp=>kZ p.2)):=hide (by rw [Dp];exact ha.op);have HRW:Hid (wr.ownsRow w1.heap.size 3 1 (.slice ar ops.length cr) ops.length (ops.map λp=>kZ p.1)):=hide (by rw [Dp];exact ha.rw');have ah8:=hide ha.out;have HOLD:=hide ha.old;have oD:=hide ha.K8;have HSZ:=hide ha.sz;have atH:=hide ha.bsz;rw [<- Dp];clear ha HA Dp;have c1:=cell0 (((ae oD).block q3 V7).trans (ae HQ3)) 0;simp at c1;have o8:=hide (ae NS wr (ae oD) (.slice ar ops.length cr) (ops.map Prod.fst) (by have:=bF.jt (ae HRW);unfold kF;rw [jH,aW];exact this) (λr hr=>by obtain ⟨p,hp,rfl⟩:=dv.mp hr;exact aG (ae ah7 p hp).1) (by rw [aW];omega));rw [aW,jH] at o8;go_wp2_with fail;refine (ae o8).mono ?_;rintro e w2 ⟨v2,rfl,sY,bO⟩;obtain ⟨va2,Ag,rfl,SD,ahv⟩:=di sY;have atJ:=hide (aw (ae HSZ) bO.size);have ah9:Hid (w2.ownsRow b.heap.size 247 4 (.slice va rows.length cJ) rows.length ((vK s (λr=>F (rowOf cs r)) (λr=>G (rowOf cs r)) rows (ops.take 0)).flatMap iD)):=hide (by rw [ll,VT];exact du (ae ah8) bO);have anA:=hide (du (ae Hd) bO);have aia:=hide sY;have ZS:=hide SD;have HLT:Hid (wr.heap.size<=w2.heap.size):=hide bO.size;have KA:=hide ((ae oD).trans (bO.mono (ae oD).size));have HVO:=hide (di (ae Hd));clear sY bO SD o8 c1;obtain ⟨N,hN⟩:∃N,N=wr.heap.size:=⟨_,rfl⟩;have HN1:Hid (w1.heap.size<=N):=hide (by rw [hN];exact ae HSZ);have HNO:Hid (∀k,(Value.slice ao ops.length co).ownBlock=some k->w1.heap.size<=k/\k<N):=hide (λk hk=>by rw [hN];exact uC (ae Hd) hk);rw [<- hN] at aia ZS;clear Hd HRW ah8 oD HSZ HLT;go_wp2_with fail;go_loopw [52] (λc wr=>∃k:Nat,k<=ops.length/\c=.int .i64 k/\Hid (wr.ownsRow b.heap.size 247 4 (.slice va rows.length cJ) rows.length ((vK s (λr=>F (rowOf cs r)) (λr=>G (rowOf cs r)) rows (ops.take k)).flatMap iD))/\Hid (wr.ownsRow w1.heap.size 3 1 (.slice ao ops.length co) ops.length (ops.map λp=>kZ p.2))/\Hid (wr.ownsRow N 247 4 (.slice va2 ops.length Ag) ops.length ((ops.map ((λr=>G (rowOf cs r)) ∘ Prod.fst)).flatMap iD))/\Hid (Below b.heap.size b wr)) (λc _=>ops.length - (intOf c).toNat)
    case atStart=>exact ⟨0,aN _,rfl,ah9,anA,aia,KA⟩
    case round=>
     obtain ⟨k,hk,rfl,HO,R9,HOR,HBZ⟩:=hrel;by_cases hlk:k<ops.length
     . have atL:(k:Int)<ops.length:=by omega
       obtain ⟨⟨r,j⟩,hkj⟩:∃p,ops[k]?=some p:=⟨ops[k],ah hlk⟩;obtain ⟨WD,Fy⟩:=ae ah7 _ (aG hkj);have hj:=(ak.mp WD).1;have hj':(j:Int)<rows.length:=by omega
       obtain ⟨g,rfl,hg⟩:=ae HVA (by omega);obtain ⟨g2,rfl,qF⟩:=ae ZS (by omega);obtain ⟨ao',co',he3,hao,-⟩:=ae HVO
       cases he3
       obtain ⟨g3,rfl,NT⟩:=hao (by omega);have LH:g<w1.heap.size:=ae HOLD g rfl;have hN1:=ae HN1;have US:(r,j)∉ops.take k:=λhm=>by
        obtain ⟨m,xV⟩:=cm hm;rw [fy] at xV;split at xV
        . obtain ⟨h1,h2⟩:=ak.mp xV
          obtain ⟨h3,h4⟩:=ak.mp hkj;have:=List.pairwise_iff_getElem.mp (ae HND) m k h1 h3 (by omega);rw [h2,h4] at this;exact bx _ this
        . cases xV
       have yb:(ops.map ((λr=>G (rowOf cs r)) ∘ Prod.fst))[k]?=some (G (rowOf cs r)):=by rw [a7,hkj];rfl
       have nS:ops.take (k+1)=ops.take k++[(r,j)]:=by rw [dW,hkj];rfl
       obtain ⟨x2,y2,z2,e2,Ah,-⟩:=gE (G (rowOf cs r));obtain ⟨x1,y1,z1,e1,o7,-⟩:=gE (F (rowOf cs r));obtain ⟨⟨d0,d1,d2,d3⟩,fz⟩:=jK (ae HOR) yb Ah;obtain ⟨o1,yW⟩:∃o,o=Obj.cells #[.bool x2,.int .i64 y2,.string z2,.bool e2] 247:=⟨_,rfl⟩;have Sn:=hide ((ae HBZ).alloc (ae HBZ).size o1);have IE:=hide ((ae HO).alloc o1);have aeq:=hide ((ae R9).alloc o1);have aic:=hide ((ae HOR).alloc o1);obtain ⟨⟨u0,u1,u2,u3⟩,fz1⟩:=jK (ae IE) (Q5 WD US) o7;have c3:(wr.alloc o1).cell? ⟨g3,k,none⟩=some (.int .i64 j):=by rw [(ae aeq).cellAt k (by omega),a7,hkj];rfl
       have Kz:=((ae Sn).block q2 V6).trans (ae VR);have s0:=cell0 Kz 0;have s1:=cell0 Kz 1;have s2:=cell0 Kz 2;have s3:=cell0 Kz 3;simp only [List.getElem?_toArray,List.getElem?_cons_zero,List.getElem?_cons_succ] at s0 s1 s2 s3;have wG:Hid (∀(o:dQ) x y z er,iD o=[.bool x,.int .i64 y,.string z,.bool er]->iU s (F (rowOf cs r)) (G (rowOf cs r))=o->
        ∃k':Nat,k'<=ops.length/\Value.int .i64 ((k:Int)+1)=.int .i64 k'/\Hid ((((((wr.alloc o1).setCell ⟨g,j*4,none⟩ (.bool x)).setCell ⟨g,j*4+1,none⟩ (.int .i64 y)).setCell ⟨g,j*4+2,none⟩ (.string z)).setCell ⟨g,j*4+3,none⟩ (.bool er)).ownsRow b.heap.size 247 4 (.slice (some ⟨g,0,none⟩) rows.length cJ) rows.length ((vK s (λr=>F (rowOf cs r)) (λr=>G (rowOf cs r)) rows (ops.take k')).flatMap iD))/\Hid ((((((wr.alloc o1).setCell ⟨g,j*4,none⟩ (.bool x)).setCell ⟨g,j*4+1,none⟩ (.int .i64 y)).setCell ⟨g,j*4+2,none⟩ (.string z)).setCell ⟨g,j*4+3,none⟩ (.bool er)).ownsRow w1.heap.size 3 1 (.slice (some ⟨g3,0,none⟩) ops.length co) ops.length (ops.map λp=>kZ p.2))/\Hid ((((((wr.alloc o1).setCell ⟨g,j*4,none⟩ (.bool x)).setCell ⟨g,j*4+1,none⟩ (.int .i64 y)).setCell ⟨g,j*4+2,none⟩ (.string z)).setCell ⟨g,j*4+3,none⟩ (.bool er)).ownsRow N 247 4 (.slice (some ⟨g2,0,none⟩) ops.length Ag) ops.length ((ops.map ((λr=>G (rowOf cs r)) ∘ Prod.fst)).flatMap iD))/\Hid (Below b.heap.size b (((((wr.alloc o1).setCell ⟨g,j*4,none⟩ (.bool x)).setCell ⟨g,j*4+1,none⟩ (.int .i64 y)).setCell ⟨g,j*4+2,none⟩ (.string z)).setCell ⟨g,j*4+3,none⟩ (.bool er)))):=hide (λo x y z er h4 h5=>by
        have iP:=(((((ae IE).stored (j*4) (.bool x)).1.stored (j*4+1) (.int .i64 y)).1.stored (j*4+2) (.string z)).1.stored (j*4+3) (.bool er)).1;rw [Ac (by rw [LL];exact hj) o h4,<- h5,LM (F:=λr=>F (rowOf cs r)) (G:=λr=>G (rowOf cs r)) WD,<- nS] at iP;have U3:(Value.slice (some ⟨g3,0,none⟩) ops.length co).ownBlock≠some g:=by simp [Value.ownBlock];omega
        have CH:(Value.slice (some ⟨g2,0,none⟩) ops.length Ag).ownBlock≠some g:=by simp [Value.ownBlock];omega
        exact ⟨k+1,by omega,by push_cast;rfl,hide iP,hide (de (de (de (de (ae aeq) U3 _) U3 _) U3 _) U3 _),hide (de (de (de (de (ae aic) CH _) CH _) CH _) CH _),hide (((((ae Sn).setCell hg _).setCell hg _).setCell hg _).setCell hg _)⟩)
       have II:Hid (iU s (F (rowOf cs r)) (G (rowOf cs r))=F (rowOf cs r)->∃k':Nat,k'<=ops.length/\Value.int .i64 ((k:Int)+1)=.int .i64 k'/\Hid ((wr.alloc o1).ownsRow b.heap.size 247 4 (.slice (some ⟨g,0,none⟩) rows.length cJ) rows.length ((vK s (λr=>F (rowOf cs r)) (λr=>G (rowOf cs r)) rows (ops.take k')).flatMap iD))/\Hid ((wr.alloc o1).ownsRow w1.heap.size 3 1 (.slice (some ⟨g3,0,none⟩) ops.length co) ops.length (ops.map λp=>kZ p.2))/\Hid ((wr.alloc o1).ownsRow N 247 4 (.slice (some ⟨g2,0,none⟩) ops.length Ag) ops.length ((ops.map ((λr=>G (rowOf cs r)) ∘ Prod.fst)).flatMap iD))/\Hid (Below b.heap.size b (wr.alloc o1))):=hide (λh=>⟨k+1,by omega,by push_cast;rfl,hide (by rw [nS,<- Ss (F:=λr=>F (rowOf cs r)) (G:=λr=>G (rowOf cs r)) WD US h];exact ae IE),aeq,aic,Sn⟩);have oy:=aG WD;have hbG:=ae HG r oy;have hbF:=ae HF r oy;clear US yb nS hkj WD oy
       cases hf:F (rowOf cs r) with
       |inr e=>rw [hf] at Fy;cases Fy
       |inl c=>
         have hbc:=hbF c hf;rw [hf] at o7 Fy
         cases iu:G (rowOf cs r) with
         |inr e=>
           have CA:=hide (ae wG (.inr e) false 0 ⟨#[]⟩ true rfl (by rw [hf,iu];simp only [qy,Bool.not_eq_true'] at Fy;simp [iU,Fy]));rw [iu] at Ah;simp [iD] at Ah;obtain ⟨rfl,rfl,rfl,rfl⟩:=Ah;clear hf iu wG II Fy o7 hbG hbF hbc;subst yW;go_wp2_with fail;go_roundw
           case rel=>exact ae CA
           case measure=>simp [intOf];omega
         |inl d=>
           have hbd:=hbG d iu;rw [iu] at Ah;have Dp:Sp s (.inl c)=false:=by simpa [qy] using Fy
           cases iP:(Sp s (.inl d)||!c.null) with
           |true=>
             have CA:=hide (ae wG (.inl d) d.null d.n d.s false rfl (by rw [hf,iu];simp only [iU,Dp,Bool.false_eq_true,if_false];cases hsd:Sp s (.inl d)<;>simp [hsd] at iP ⊢;simp [iP]));clear hf iu wG II hbG hbF Dp;rcases hbc with rfl|rfl|rfl<;>rcases hbd with rfl|rfl|rfl<;>cases s<;>first
              | (simp [qy,Sp,eW,oA] at Fy;done)
              | (simp [Sp,eW,oA] at iP;done)
              | (clear Fy iP
                 simp [iD,eW,oA] at o7 Ah;obtain ⟨rfl,rfl,rfl,rfl⟩:=o7;obtain ⟨rfl,rfl,rfl,rfl⟩:=Ah;subst yW;simp [jr,oA] at s1;go_wp2_with fail;go_roundw
                 case rel=>exact ae CA
                 case measure=>simp [intOf];omega)
           |false=>
             have CA:=hide (ae II (by rw [hf,iu];simp only [iU,Dp,Bool.false_eq_true,if_false];cases hsd:Sp s (.inl d)<;>simp [hsd] at iP ⊢;simp [iP]));clear hf iu wG II hbG hbF Dp;rcases hbc with rfl|rfl|rfl<;>rcases hbd with rfl|rfl|rfl<;>cases s<;>first
              | (simp [qy,Sp,eW,oA] at Fy;done)
              | (simp [Sp,eW,oA] at iP;done)
              | (clear Fy iP
                 simp [iD,eW,oA] at o7 Ah;obtain ⟨rfl,rfl,rfl,rfl⟩:=o7;obtain ⟨rfl,rfl,rfl,rfl⟩:=Ah;subst yW;simp [jr,oA] at s1;go_wp2_with fail;go_roundw
                 case rel=>exact ae CA
                 case measure=>simp [intOf];omega)
     . obtain rfl:k=ops.length:=by omega
       have ho:=ae HO;rw [fI,ae E5] at ho;have JW:=hide ho;clear ho;go_wp2_with fail;go_ret;exact ⟨_,rfl,ae JW,ae HBZ⟩
theorem take_len (m:Mode)(s:ByteArray):(m.take s).len<=m.len:=by
 unfold Mode.take;split
 . exact bG
 . rw [(lj (cj m 2)).1];omega
def U7 (p:Nat)(v:Value)(w:World)(k:Nat):Prop:=k<w.heap.size/\k≠p/\v.ownBlock≠some k
structure Fq (p:Nat)(v v':Value)(w w':World):Prop where
 keeps:aQ (U7 p v w) w w'
 own:∀g,v'.ownBlock=some g->v.ownBlock=some g\/w.heap.size<=g
structure KX (c x:eT):Prop where
 deep:x.deep=c.deep
 word:x.word=c.word
 names:x.names=c.names
 kinds:x.kinds=c.kinds
 rows:x.rows=c.rows
 dU:x.dU=c.dU
 form:(∃s,x.GZ=.string s)/\(∃i,x.G3=.int .i64 i)/\(∃s,x.G4=.string s)/\(∃i,x.G5=.int .i64 i)/\∃i,x.cond=.int .i64 i
structure Rd (o:World×Value)(w:World)(p:Nat)(c:eT)(v:Value)(m:Mode)(n:Nat):Prop where
 ex:∃x ns,fX (U7 p v w) w p x m ns/\KX c x/\x.nodes=v/\ns.length=n
 fr:Fq p o.2 v o.1 w
 lo:p<o.1.heap.size
section
variable {o:World×Value} {w w' w'':World} {p:Nat} {c x x':eT} {v v' v'':Value} {m m':Mode} {n:Nat} {ns:List jA}
theorem Fq.trans (a:Fq p v v' w w')(b:Fq p v' v'' w' w''):Fq p v v'' w w'':=
 ⟨a.keeps.trans (b.keeps.mono λk hk=>⟨aF hk.1 a.keeps.size,hk.2.1,λe=>(a.own k e).elim hk.2.2 (by have:=hk.1;omega)⟩),λg e=>(b.own g e).elim (a.own g) λh=>.inr (aw a.keeps.size h)⟩
theorem Fq.refl (p:Nat)(v:Value)(w:World):Fq p v v w w:=⟨aQ.refl _ _,λ_ e=>.inl e⟩
theorem Fq.below (h:Below w.heap.size w w'):Fq p v v w w':=⟨⟨h.os,h.tape,h.output,h.size,λk hk=>h.block k hk.1⟩,λ_ e=>.inl e⟩
theorem KX.rest (h:KX c x)(r:Rest x x'):KX c x':=
 ⟨r.deep.trans h.deep,r.word.trans h.word,r.names.trans h.names,r.kinds.trans h.kinds,r.rows.trans h.rows,r.dU.trans h.dU,by rw [r.GZ,r.G3,r.G4,r.G5,r.cond];exact h.form⟩
theorem Rd.Gh {c':eT}(h:Rd o w p c v m n)(hs:KX c' x')(q:fX (U7 p v w) w' p x' m' ns)(k:aQ (U7 p v w) w w'):Rd o w' p c' x'.nodes m' ns.length/\Fq p v x'.nodes w w':=by
 have fr:Fq p v x'.nodes w w':=⟨k,λg e=>by
  by_cases hg:w.heap.size<=g
  . exact .inr hg
  . exact .inl (kr λhn=>q.kv g e ⟨by omega,λe'=>q.apart (e' ▸ e),hn⟩)⟩
 have cF:=q.pen.lt;have hp:=q.p0;exact ⟨⟨⟨x',ns,q.more ⟨by omega,by omega,λe=>q.kv 0 e q.k0⟩ (λk hk=>.inr ⟨hk.2.1,hk.2.2,hk.1⟩),hs,rfl,rfl⟩,h.fr.trans fr,h.lo⟩,fr⟩
theorem Rd.step (h:Rd o w p c v m n)(hs:KX c x)(r:Rest x x')(q:fX (U7 p v w) w' p x' m' ns)(k:aQ (U7 p v w) w w'):Rd o w' p c x'.nodes m' ns.length/\Fq p v x'.nodes w w':=h.Gh (hs.rest r) q k
theorem Rd.is (h:Rd o w p c v m n)(t:ByteArray):Calls Tryz.prog 30 #[.pointer (some ⟨p,0,none⟩),.string t] w λr w'=>r=.returned (.bool (m.is t))/\w=w':=by
 obtain ⟨x,ns,q,_⟩:=h.ex;exact ab2 q t
theorem Rd.next (h:Rd o w p c v m n)(hm:∀t ts,m=.live t ts->t.k.ends=false):Calls Tryz.prog 17 #[.pointer (some ⟨p,0,none⟩)] w λr w'=>
 r=.returned (.tuple #[])/\Rd o w' p c v m.next n/\Fq p v v w w':=by
 obtain ⟨x,ns,q,hs,rfl,rfl⟩:=h.ex;refine (DT q hm).mono ?_;rintro r w' ⟨rfl,x',q',r',e,k⟩;exact ⟨rfl,e ▸ h.step hs r' q' k⟩
theorem Rd.fail (h:Rd o w p c v m n)(e b:Nat)(he:e≠0)(hb:Hid (m.alive->b=m.place)):Calls Tryz.prog 19 #[.pointer (some ⟨p,0,none⟩),.int .i64 e,.int .i64 b] w λr w'=>
 r=.returned (.tuple #[])/\Rd o w' p c v (m.wrong e) n/\Fq p v v w w':=by
 obtain ⟨x,ns,q,hs,rfl,rfl⟩:=h.ex;refine (Ax q e b he).mono ?_;rintro r w' ⟨rfl,x',q',r',e',k⟩;have hw:m.wrong e=m.fail e b:=by
  cases m with
  |dead _ _=>rfl
  |live t ts=>rw [ae hb trivial];rfl
 rw [hw];exact ⟨rfl,e' ▸ h.step hs r' q' k⟩
theorem Rd.take (h:Rd o w p c v m n)(t:ByteArray):Calls Tryz.prog 35 #[.pointer (some ⟨p,0,none⟩),.string t] w λr w'=>
 ∃i:Nat,r=.returned (.int .i64 i)/\Rd o w' p c v (m.take t) n/\Fq p v v w w':=by
 obtain ⟨x,ns,q,hs,rfl,rfl⟩:=h.ex;refine (aad q t).mono ?_;rintro r w' ⟨rfl,x',q',r',e',k⟩;exact ⟨_,rfl,e' ▸ h.step hs r' q' k⟩
theorem Rd.name (h:Rd o w p c v m n):Calls Tryz.prog 32 #[.pointer (some ⟨p,0,none⟩)] w λr w'=>
 ∃(s:ByteArray) (i:Nat),r=.returned (.agg #[.string s,.int .i64 i])/\Rd o w' p c v m.name.2 n/\Fq p v v w w':=by
 obtain ⟨x,ns,q,hs,rfl,rfl⟩:=h.ex;refine (aaf q).mono ?_;rintro r w' ⟨rfl,x',q',r',e',k⟩;exact ⟨_,_,rfl,e' ▸ h.step hs r' q' k⟩
theorem Rd.node (h:Rd o w p c v m n)(y:jA)(hn:n<=1000):Calls Tryz.prog 93 #[.pointer (some ⟨p,0,none⟩),Wu y] w λr w'=>
 ∃v',r=.returned (.int .i64 n)/\Rd o w' p c v' m (n+1)/\Fq p v v' w w':=by
 obtain ⟨x,ns,q,hs,rfl,rfl⟩:=h.ex;refine (Rn q y hn).mono ?_;rintro r w' ⟨rfl,x',q',r',k⟩;have:=h.step hs r' q' k;rw [au] at this;exact ⟨_,rfl,this⟩
theorem Rd.two (h:Rd o w p c v m n)(op:ByteArray)(pl a b:Nat)(ha:a<n)(hn:n<=1000):Calls Tryz.prog 66 #[.pointer (some ⟨p,0,none⟩),.string op,.int .i64 pl,.int .i64 a,.int .i64 b] w λr w'=>
 ∃v',r=.returned (.int .i64 n)/\Rd o w' p c v' m (n+1)/\Fq p v v' w w':=by
 obtain ⟨x,ns,q,hs,rfl,rfl⟩:=h.ex;refine (aec q op pl a b _ (ah ha) hn).mono ?_;rintro r w' ⟨rfl,x',q',r',k⟩;have:=h.step hs r' q' k;rw [au] at this;exact ⟨_,rfl,this⟩
theorem Rd.Gi (h:Rd o w p c v m n)(hd:c.deep=8):Calls Tryz.prog 123 #[.pointer (some ⟨p,0,none⟩)] w λr w'=>
 r=.returned (.bool false)/\Rd o w' p c v (m.wrong 3) n/\Fq p v v w w':=by
 obtain ⟨x,ns,q,hs,rfl,rfl⟩:=h.ex;refine (Mw q (hs.deep.trans hd)).mono ?_;rintro r w' ⟨rfl,x',q',r',e',k⟩;exact ⟨rfl,e' ▸ h.step hs r' q' k⟩
theorem Rd.down (h:Rd o w p c v m n)(hm:∀t ts,m=.live t ts->t.k.ends=false)(hd:c.deep<8):Calls Tryz.prog 123 #[.pointer (some ⟨p,0,none⟩)] w λr w'=>
 r=.returned (.bool true)/\Rd o w' p { c with deep:=c.deep+1 } v m.next n/\Fq p v v w w':=by
 obtain ⟨x,ns,q,hs,rfl,rfl⟩:=h.ex;refine (aah q hm (hs.deep.symm ▸ hd)).mono ?_;rintro r w' ⟨rfl,x',q',r',e',k⟩;have VC:KX { c with deep:=c.deep+1 } { x with deep:=x.deep+1 }:=⟨aU (·+1) hs.deep,hs.word,hs.names,hs.kinds,hs.rows,hs.dU,hs.form⟩;exact ⟨rfl,e' ▸ h.Gh (VC.rest r') q' k⟩
theorem Rd.live (h:Rd o w p c v m n){t:ByteArray}(i:m.is t=true):m.alive/\(∀t ts,m=.live t ts->t.k.ends=false)/\m.next.len+1=m.len:=by
 obtain ⟨x,ns,q,_⟩:=h.ex;exact (Ro q.mode i).2.2
theorem Rd.cells (h:Rd o w p c v m n):∃(k:Nat) (t:ByteArray) (i:Nat) (j:Int),w.cell? ⟨p,2,none⟩=some (.int .u8 k)/\w.cell? ⟨p,3,none⟩=some (.string t)/\w.cell? ⟨p,4,none⟩=some (.int .i64 i)/\w.cell? ⟨p,5,none⟩=some (.int .i64 j)/\Hid (m.alive->i=m.place):=by
 obtain ⟨x,ns,q,_⟩:=h.ex;refine ⟨_,_,_,_,q.pen.cell 2,q.pen.cell 3,q.pen.cell 4,q.pen.cell 5,hide λha=>?_⟩;have:=q.mode
 cases m with
 |dead _ _=>exact ha.elim
 |live t ts=>exact this.2.2.1
theorem Rd.Nv (h:Rd o w p c v m n):lenOf ((w.cell? ⟨p,19,none⟩).getD undef)=n:=by
 obtain ⟨x,ns,q,_,_,rfl⟩:=h.ex;rw [q.pen.cell 19];show lenOf x.nodes=ns.length;rcases q.own.2 with ⟨h1,h0⟩|⟨g,cap,_,hv,_⟩
 . rw [h1,h0];rfl
 . rw [hv];rfl
theorem Rd.below (h:Rd o w p c v m n)(b:Below w.heap.size w w'):Rd o w' p c v m n:=by
 obtain ⟨x,ns,q,hs,rfl,rfl⟩:=h.ex;exact (h.Gh hs (q.below b) ⟨b.os,b.tape,b.output,b.size,λk hk=>b.block k hk.1⟩).1
theorem Rd.drew (h:Rd o w p c v m n):Rd o w.drew p c v m n/\Fq p v v w w.drew:=by
 obtain ⟨x,ns,q,hs,rfl,rfl⟩:=h.ex;exact h.Gh hs q.drew (aQ.refl _ _).drew
theorem Rd.lt (h:Rd o w p c v m n):p<w.heap.size:=by
 obtain ⟨x,ns,q,_⟩:=h.ex;exact q.pen.lt
end
structure Bd (m m':Mode)(n n' k:Nat):Prop where
 hi:k<n'
 gr:n<n'
 bud:n'+m'.len<=n+m.len+m'.due
theorem Bd.len {m m':Mode}{n n' k:Nat}(h:Bd m m' n n' k):m'.len<=m.len:=by
 have h1:=h.gr;have h2:=h.bud;have h3:=mM m';omega
def PF (f:Nat)(S:Option vI->Mode->Ex×Mode)(d:Nat):Prop:=
 ∀(o:World×Value) (w:World) (p:Nat) (c:eT) (v:Value) (m:Mode) (n:Nat),Rd o w p c v m n->c.deep+d=8->n+m.len<=600->
   Calls Tryz.prog f #[.pointer (some ⟨p,0,none⟩)] w λr w'=>∃(v':Value) (n' k:Nat),r=.returned (.int .i64 k)/\Rd o w' p c v' (S (lvl d) m).2 n'/\Fq p v v' w w'/\Bd m (S (lvl d) m).2 n n' k
theorem or3 (a b c:Bool):(a=false/\b=false/\c=false)\/a=true\/(a=false/\b=true)\/(a=false/\b=false/\c=true):=by
 cases a<;>cases b<;>cases c<;>simp
theorem or2 (a b:Bool):(a=false/\b=false)\/a=true\/(a=false/\b=true):=by
 cases a<;>cases b<;>simp
theorem or1 (a:Bool):a=false\/a=true:=by cases a<;>simp
theorem Bd.two {m m1 m3:Mode}{n n1 n3 k j:Nat}(a:Bd m m1 n n1 k)(ha:m1.alive)(hl:m1.next.len+1=m1.len)(b:Bd m1.next m3 n1 n3 j):Bd m m3 n (n3+1) n3:=by
 have h1:=a.bud;have h2:=b.bud;have h3:=a.gr;have h4:=b.gr;rw [mL ha] at h1;exact ⟨by omega,by omega,by omega⟩
theorem Nw (d:Nat)(hl:PF 177 gN d):PF 159 zV d:=by
 intro o w p c v m n h hd hf;go_enter Tryz.func159,Tryz.ntmps159;go_wp2_with fail;refine (hl o w p c v m n h hd hf).mono ?_;rintro r w1 ⟨v1,n1,k,rfl,h1,f1,b1⟩;go_wp2_with fail;go_loopw [3] (λa wr=>∃(k:Nat) (v':Value) (m':Mode) (n':Nat) (e:Ex) (f:Nat),a=.int .i64 k/\Rd o wr p c v' m' n'/\Fq p v v' w wr/\Bd m m' n n' k/\m'.len<=f/\Hid (l9 (gN (lvl d)) rU f e m'=zV (lvl d) m)) (λ_ wr=>2000 - lenOf ((wr.cell? ⟨p,19,none⟩).getD undef))
 case atStart=>exact ⟨k,_,_,_,_,_,rfl,h1,f1,b1,af _,hide rfl⟩
 case round=>
  obtain ⟨k',v',m',n',e,f,rfl,h2,f2,b2,xN,HC⟩:=hrel;obtain ⟨_,t,i,_,_,c3,c4,_,_⟩:=h2.cells;rcases or3 (m'.is (ByteArray.mk #[42])) (m'.is (ByteArray.mk #[47])) (m'.is (ByteArray.mk #[37])) with ⟨i0,i1,i2⟩|i0|⟨i0,i1⟩|⟨i0,i1,i2⟩
  . have HF:=hide ((rB (by simp [rU,bs,i0,i1,i2])).symm.trans (ae HC))
    go_wp2_with (go_at_call 30;refine (h2.is _).mono ?_;rintro r' w' ⟨rfl,rfl⟩);go_ret;refine ⟨v',n',k',rfl,?_⟩;rw [<- ae HF];exact ⟨h2,f2,b2⟩
  all_goals
   obtain ⟨t',it,ho⟩:∃t',m'.is t'=true/\rU.find? (λo=>m'.is o)=some t':=by first|exact ⟨_,i2,by simp [rU,bs,i0,i1,i2]⟩|exact ⟨_,i1,by simp [rU,bs,i0,i1]⟩|exact ⟨_,i0,by simp [rU,bs,i0]⟩
   obtain ⟨e3,e4,e5⟩:=h2.live it;obtain ⟨f,rfl⟩:∃g,f=g+1:=⟨f - 1,by omega⟩;have o8:=hide (rA (ae HC) ho);have kX:=b2.bud;rw [mL e3] at kX;clear it ho;go_wp2_with (go_at_call 30;refine (h2.is _).mono ?_;rintro r' w' ⟨rfl,rfl⟩);refine (h2.next e4).mono ?_;rintro r w2 ⟨rfl,h3,f3⟩;clear c3 c4;go_wp2_with fail;refine (hl o w2 p c v' m'.next n' h3 hd (by omega)).mono ?_;rintro r w3 ⟨v3,n3,j,rfl,h4,f4,b4⟩;have eD:=b4.bud;have cF:=b4.gr;have hhi:=b2.hi;have aaY:=mM (gN (lvl d) m'.next).2;have Jw:=b4.len;go_wp2_with fail;refine (h4.two _ _ k' j (by omega) (by omega)).mono ?_;rintro r w4 ⟨v4,rfl,h5,f5⟩;have B:=b2.two e3 e5 b4;have ln4:=h5.Nv;have ln0:=h2.Nv;go_wp2_with fail;go_roundw
   case rel=>exact ⟨n3,v4,_,_,_,f,rfl,h5,f2.trans (f3.trans (f4.trans f5)),B,by omega,o8⟩
   case measure=>
    rw [ln4,ln0];omega
theorem JA (d:Nat)(hl:PF 159 zV d):PF 144 iB d:=by
 intro o w p c v m n h hd hf;go_enter Tryz.func144,Tryz.ntmps144;go_wp2_with fail;refine (hl o w p c v m n h hd hf).mono ?_;rintro r w1 ⟨v1,n1,k,rfl,h1,f1,b1⟩;go_wp2_with fail;go_loopw [3] (λa wr=>∃(k:Nat) (v':Value) (m':Mode) (n':Nat) (e:Ex) (f:Nat),a=.int .i64 k/\Rd o wr p c v' m' n'/\Fq p v v' w wr/\Bd m m' n n' k/\m'.len<=f/\Hid (l9 (zV (lvl d)) q7 f e m'=iB (lvl d) m)) (λ_ wr=>2000 - lenOf ((wr.cell? ⟨p,19,none⟩).getD undef))
 case atStart=>exact ⟨k,_,_,_,_,_,rfl,h1,f1,b1,af _,hide rfl⟩
 case round=>
  obtain ⟨k',v',m',n',e,f,rfl,h2,f2,b2,xN,HC⟩:=hrel;obtain ⟨_,t,i,_,_,c3,c4,_,_⟩:=h2.cells;rcases or2 (m'.is (ByteArray.mk #[43])) (m'.is (ByteArray.mk #[45])) with ⟨i0,i1⟩|i0|⟨i0,i1⟩
  . have HF:=hide ((rB (by simp [q7,bs,i0,i1])).symm.trans (ae HC))
    go_wp2_with (go_at_call 30;refine (h2.is _).mono ?_;rintro r' w' ⟨rfl,rfl⟩);go_ret;refine ⟨v',n',k',rfl,?_⟩;rw [<- ae HF];exact ⟨h2,f2,b2⟩
  all_goals
   obtain ⟨t',it,ho⟩:∃t',m'.is t'=true/\q7.find? (λo=>m'.is o)=some t':=by first|exact ⟨_,i1,by simp [q7,bs,i0,i1]⟩|exact ⟨_,i0,by simp [q7,bs,i0]⟩
   obtain ⟨e3,e4,e5⟩:=h2.live it;obtain ⟨f,rfl⟩:∃g,f=g+1:=⟨f - 1,by omega⟩;have o8:=hide (rA (ae HC) ho);have kX:=b2.bud;rw [mL e3] at kX;clear it ho;go_wp2_with (go_at_call 30;refine (h2.is _).mono ?_;rintro r' w' ⟨rfl,rfl⟩);refine (h2.next e4).mono ?_;rintro r w2 ⟨rfl,h3,f3⟩;clear c3 c4;go_wp2_with fail;refine (hl o w2 p c v' m'.next n' h3 hd (by omega)).mono ?_;rintro r w3 ⟨v3,n3,j,rfl,h4,f4,b4⟩;have eD:=b4.bud;have cF:=b4.gr;have hhi:=b2.hi;have aaY:=mM (zV (lvl d) m'.next).2;have Jw:=b4.len;go_wp2_with fail;refine (h4.two _ _ k' j (by omega) (by omega)).mono ?_;rintro r w4 ⟨v4,rfl,h5,f5⟩;have B:=b2.two e3 e5 b4;have ln4:=h5.Nv;have ln0:=h2.Nv;go_wp2_with fail;go_roundw
   case rel=>exact ⟨n3,v4,_,_,_,f,rfl,h5,f2.trans (f3.trans (f4.trans f5)),B,by omega,o8⟩
   case measure=>
    rw [ln4,ln0];omega
theorem Nx (d:Nat)(hl:PF 92 gO d):PF 65 zW d:=by
 intro o w p c v m n h hd hf;go_enter Tryz.func65,Tryz.ntmps65;go_wp2_with fail;refine (hl o w p c v m n h hd hf).mono ?_;rintro r w1 ⟨v1,n1,k,rfl,h1,f1,b1⟩;go_wp2_with fail;go_loopw [3] (λa wr=>∃(k:Nat) (v':Value) (m':Mode) (n':Nat) (e:Ex) (f:Nat),a=.int .i64 k/\Rd o wr p c v' m' n'/\Fq p v v' w wr/\Bd m m' n n' k/\m'.len<=f/\Hid (l9 (gO (lvl d)) xy f e m'=zW (lvl d) m)) (λ_ wr=>2000 - lenOf ((wr.cell? ⟨p,19,none⟩).getD undef))
 case atStart=>exact ⟨k,_,_,_,_,_,rfl,h1,f1,b1,af _,hide rfl⟩
 case round=>
  obtain ⟨k',v',m',n',e,f,rfl,h2,f2,b2,xN,HC⟩:=hrel;obtain ⟨_,t,i,_,_,c3,c4,_,_⟩:=h2.cells;rcases or1 (m'.is (ByteArray.mk #[97,110,100])) with i0|i0
  . have HF:=hide ((rB (by simp [xy,bs,i0])).symm.trans (ae HC))
    go_wp2_with (go_at_call 30;refine (h2.is _).mono ?_;rintro r' w' ⟨rfl,rfl⟩);go_ret;refine ⟨v',n',k',rfl,?_⟩;rw [<- ae HF];exact ⟨h2,f2,b2⟩
  all_goals
   obtain ⟨t',it,ho⟩:∃t',m'.is t'=true/\xy.find? (λo=>m'.is o)=some t':=by first|exact ⟨_,i0,by simp [xy,bs,i0]⟩
   obtain ⟨e3,e4,e5⟩:=h2.live it;obtain ⟨f,rfl⟩:∃g,f=g+1:=⟨f - 1,by omega⟩;have o8:=hide (rA (ae HC) ho);have kX:=b2.bud;rw [mL e3] at kX;clear it ho;go_wp2_with (go_at_call 30;refine (h2.is _).mono ?_;rintro r' w' ⟨rfl,rfl⟩);refine (h2.next e4).mono ?_;rintro r w2 ⟨rfl,h3,f3⟩;clear c3 c4;go_wp2_with fail;refine (hl o w2 p c v' m'.next n' h3 hd (by omega)).mono ?_;rintro r w3 ⟨v3,n3,j,rfl,h4,f4,b4⟩;have eD:=b4.bud;have cF:=b4.gr;have hhi:=b2.hi;have aaY:=mM (gO (lvl d) m'.next).2;have Jw:=b4.len;go_wp2_with fail;refine (h4.two _ _ k' j (by omega) (by omega)).mono ?_;rintro r w4 ⟨v4,rfl,h5,f5⟩;have B:=b2.two e3 e5 b4;have ln4:=h5.Nv;have ln0:=h2.Nv;go_wp2_with fail;go_roundw
   case rel=>exact ⟨n3,v4,_,_,_,f,rfl,h5,f2.trans (f3.trans (f4.trans f5)),B,by omega,o8⟩
   case measure=>
    rw [ln4,ln0];omega
theorem Ny (d:Nat)(hl:PF 65 zW d):PF 48 j9 d:=by
 intro o w p c v m n h hd hf;go_enter Tryz.func48,Tryz.ntmps48;go_wp2_with fail;refine (hl o w p c v m n h hd hf).mono ?_;rintro r w1 ⟨v1,n1,k,rfl,h1,f1,b1⟩;go_wp2_with fail;go_loopw [3] (λa wr=>∃(k:Nat) (v':Value) (m':Mode) (n':Nat) (e:Ex) (f:Nat),a=.int .i64 k/\Rd o wr p c v' m' n'/\Fq p v v' w wr/\Bd m m' n n' k/\m'.len<=f/\Hid (l9 (zW (lvl d)) xA f e m'=j9 (lvl d) m)) (λ_ wr=>2000 - lenOf ((wr.cell? ⟨p,19,none⟩).getD undef))
 case atStart=>exact ⟨k,_,_,_,_,_,rfl,h1,f1,b1,af _,hide rfl⟩
 case round=>
  obtain ⟨k',v',m',n',e,f,rfl,h2,f2,b2,xN,HC⟩:=hrel;obtain ⟨_,t,i,_,_,c3,c4,_,_⟩:=h2.cells;rcases or1 (m'.is (ByteArray.mk #[111,114])) with i0|i0
  . have HF:=hide ((rB (by simp [xA,bs,i0])).symm.trans (ae HC))
    go_wp2_with (go_at_call 30;refine (h2.is _).mono ?_;rintro r' w' ⟨rfl,rfl⟩);go_ret;refine ⟨v',n',k',rfl,?_⟩;rw [<- ae HF];exact ⟨h2,f2,b2⟩
  all_goals
   obtain ⟨t',it,ho⟩:∃t',m'.is t'=true/\xA.find? (λo=>m'.is o)=some t':=by first|exact ⟨_,i0,by simp [xA,bs,i0]⟩
   obtain ⟨e3,e4,e5⟩:=h2.live it;obtain ⟨f,rfl⟩:∃g,f=g+1:=⟨f - 1,by omega⟩;have o8:=hide (rA (ae HC) ho);have kX:=b2.bud;rw [mL e3] at kX;clear it ho;go_wp2_with (go_at_call 30;refine (h2.is _).mono ?_;rintro r' w' ⟨rfl,rfl⟩);refine (h2.next e4).mono ?_;rintro r w2 ⟨rfl,h3,f3⟩;clear c3 c4;go_wp2_with fail;refine (hl o w2 p c v' m'.next n' h3 hd (by omega)).mono ?_;rintro r w3 ⟨v3,n3,j,rfl,h4,f4,b4⟩;have eD:=b4.bud;have cF:=b4.gr;have hhi:=b2.hi;have aaY:=mM (zW (lvl d) m'.next).2;have Jw:=b4.len;go_wp2_with fail;refine (h4.two _ _ k' j (by omega) (by omega)).mono ?_;rintro r w4 ⟨v4,rfl,h5,f5⟩;have B:=b2.two e3 e5 b4;have ln4:=h5.Nv;have ln0:=h2.Nv;go_wp2_with fail;go_roundw
   case rel=>exact ⟨n3,v4,_,_,_,f,rfl,h5,f2.trans (f3.trans (f4.trans f5)),B,by omega,o8⟩
   case measure=>
    rw [ln4,ln0];omega
theorem fX.grown {K:Nat->Prop}{w w':World}{p:Nat}{x:eT}{m:Mode}{ns:List jA}{row:Option Nat}(h:fX K w p x m ns)(hg:w.grownBy w' row)(hr:∀g,row=some g->g≠p/\x.nodes.ownBlock≠some g/\¬K g):fX K w' p x m ns/\aQ K w w':=by
 have hK:aQ K w w':=(aQ.refl K w).grown hg h.old (λk e=>(hr k e).2.2);have cF:=h.pen.lt;refine ⟨⟨h.pen.eo (hg.block p cF (λe=>(hr p e.symm).1 rfl)),?_,h.p0,h.zm,h.pos,h.tk,h.tn,h.tp,h.mode,h.own.kept hg ?_,h.apart,h.k0,h.kp,h.kv,λk hk=>aF (h.old k hk) hK.size⟩,hK⟩
 . intro i s hs
   exact (hK.cell (p:=⟨0,i,none⟩) h.k0).trans (h.laid i s hs)
 . cases row with
   |none=>cases hb:x.nodes.ownBlock<;>simp
   |some g=>exact .inr (hr g rfl).2.1
theorem fX.field {K:Nat->Prop}{w:World}{p:Nat}{x y:eT}{m:Mode}{ns:List jA}(h:fX K w p x m ns)(i:Nat)(v:Value)(he:(gX x).setIfInBounds i v=gX y)(hq:(y.S,y.pos,y.tk,y.tt,y.tp,y.tn,y.e,y.bad,y.nodes)=(x.S,x.pos,x.tk,x.tt,x.tp,x.tn,x.e,x.bad,x.nodes)) :
 fX K (w.setCell ⟨p,i,none⟩ v) p y m ns/\aQ K w (w.setCell ⟨p,i,none⟩ v):=by
 simp only [Prod.mk.injEq] at hq;obtain ⟨hS,hp,nS,htt,htp,htn,hee,hb,hn⟩:=hq;have hK:aQ (Other p w) w (w.setCell ⟨p,i,none⟩ v):=(aQ.refl _ _).own i _;refine ⟨⟨h.pen.set i v he,h.laid.keeps hK h.p0,h.p0,by rw [hS];exact h.zm,by rw [hS,hp];exact h.pos,by rw [nS];exact h.tk,by rw [htn];exact h.tn,by rw [hS,htp];exact h.tp,?_,by rw [hn];exact h.own.kept (grownBy_setCell w ⟨p,i,none⟩ v) (.inr h.apart),by rw [hn];exact h.apart,h.k0,h.kp,by rw [hn];exact h.kv,λk hk=>by simpa [World.setCell] using h.old k hk⟩,hK.mono h.other⟩;have hm:=h.mode
 cases m with
 |dead e b=>obtain ⟨h1,h2,h3⟩:=hm;exact ⟨by rw [hee];exact h1,by rw [hb];exact h2,h3⟩
 |live t ts=>obtain ⟨h1,h2,h3,h4,h5⟩:=hm;exact ⟨by rw [hee];exact h1,by rw [nS,htt,htn];exact h2,by rw [htp];exact h3,by rw [hS,hp];exact h4,h5⟩
inductive Item where
 | box (b:Nat) (cs:Array Value) (t:TypeId)
 | row (s:Value) (t:TypeId) (z q:Nat)
def Item.dV:Item->Option Nat
 |.box b _ _=>some b
 |.row s _ _ _=>s.ownBlock
def Item.ok (lo:Nat)(w:World):Item->Prop
 |.box b cs t=>w.heap[b]?=some (.cells cs t (0,0))/\lo<=b
 |.row s t z q=>∃xs,w.ownsRow lo t z s q xs
structure St (o:World×Value)(w:World)(p:Nat)(c:eT)(v:Value)(m:Mode)(n:Nat)(L:List Item):Prop where
 rd:Rd o w p c v m n
 ok:∀a∈L,a.ok o.1.heap.size w/\∀g,a.dV=some g->g≠p/\v.ownBlock≠some g
 ap:L.Pairwise λa b=>∀g,a.dV=some g->b.dV≠some g
section
variable {o:World×Value} {w w':World} {p b lo g cap q z:Nat} {c c':eT} {v v' s:Value} {m m':Mode} {n n':Nat} {L:List Item} {a:Item} {cs:Array Value} {t:TypeId} {xs:List Value}
theorem Item.ok.move (h:a.ok lo w)(hb:∀g,a.dV=some g->w'.heap[g]?=w.heap[g]?):a.ok lo w':=by
 cases a with
 |box b cs t=>exact ⟨(hb b rfl).trans h.1,h.2⟩
 |row s t z q=>
   obtain ⟨xs,h⟩:=h;refine ⟨xs,h.1,?_⟩;rcases h.2 with h2|⟨g,cap,cur,hv,hg,hc,r⟩
   . exact .inl h2
   . exact .inr ⟨g,cap,cur,hv,hg,(hb g (by show s.ownBlock=_;rw [hv];rfl)).trans hc,r⟩
theorem Item.ok.lt (h:a.ok lo w)(hg:a.dV=some g):g<w.heap.size/\lo<=g:=by
 cases a with
 |box b cs t=>cases hg;exact ⟨(dM.mp h.1).1,h.2⟩
 |row s t z q=>obtain ⟨xs,h⟩:=h;exact ⟨(h.lt g hg).2,(h.lt g hg).1⟩
theorem Rd.away (h:Rd o w p c v m n)(hk:w.heap.size<=b):b≠p/\v.ownBlock≠some b:=by
 obtain ⟨x,ns,q,_,rfl,_⟩:=h.ex;have:=q.pen.lt;exact ⟨by omega,λe=>by have:=(q.own.lt b e).2;omega⟩
theorem Rd.put (h:Rd o w p c v m n)(hb:o.1.heap.size<=b)(h1:b≠p)(h2:v.ownBlock≠some b)(i:Nat)(u:Value):Rd o (w.setCell ⟨b,i,none⟩ u) p c v m n:=by
 obtain ⟨x,ns,q,hs,rfl,rfl⟩:=h.ex;have pb:=h.lo;have q':=(q.less (K':=λk=>U7 p x.nodes w k/\k≠b) (λ_ hk=>hk.1) ⟨q.k0,by omega⟩).put h1 h2 (λhk=>hk.2 rfl) i u;exact ⟨⟨x,ns,q'.more ⟨by simpa [World.setCell] using q.k0.1,q.k0.2.1,q.k0.2.2⟩ (λk hk=>.inr ⟨hk.2.1,hk.2.2,hk.1⟩),hs,rfl,rfl⟩,⟨h.fr.keeps.setCell (p:=⟨b,i,none⟩) (λhk=>Nat.not_lt.mpr hb hk.1) u,h.fr.own⟩,h.lo⟩
theorem Rd.grown {row:Option Nat}(h:Rd o w p c v m n)(hg:w.grownBy w' row)(hr:∀g,row=some g->o.1.heap.size<=g/\g≠p/\v.ownBlock≠some g):Rd o w' p c v m n:=by
 obtain ⟨x,ns,q,hs,rfl,rfl⟩:=h.ex;have pb:=h.lo;obtain ⟨q',_⟩:=(q.less (K':=λk=>U7 p x.nodes w k/\row≠some k) (λ_ hk=>hk.1) ⟨q.k0,λe=>by have:=hr 0 e;omega⟩).grown hg (λg e=>⟨(hr g e).2.1,(hr g e).2.2,λhk=>hk.2 e⟩);exact ⟨⟨x,ns,q'.more ⟨aF q.k0.1 hg.size,q.k0.2.1,q.k0.2.2⟩ (λk hk=>.inr ⟨hk.2.1,hk.2.2,hk.1⟩),hs,rfl,rfl⟩,⟨h.fr.keeps.grown hg (λk hk=>aF hk.1 h.fr.keeps.size) (λk e hk=>by have:=(hr k e).1;have:=hk.1;omega),h.fr.own⟩,h.lo⟩
theorem Rd.Y4 (h:Rd o w p c v m n)(i:Nat)(u:Value)(hy:∀x,KX c x->∃y,(gX x).setIfInBounds i u=gX y/\KX c' y/\(y.S,y.pos,y.tk,y.tt,y.tp,y.tn,y.e,y.bad,y.nodes)=(x.S,x.pos,x.tk,x.tt,x.tp,x.tn,x.e,x.bad,x.nodes)) :
 Rd o (w.setCell ⟨p,i,none⟩ u) p c' v m n/\Fq p v v w (w.setCell ⟨p,i,none⟩ u):=by
 obtain ⟨x,ns,q,hs,rfl,rfl⟩:=h.ex;obtain ⟨y,he,VC,hq⟩:=hy x hs;obtain ⟨q',k'⟩:=q.field i u he hq;have hn:y.nodes=x.nodes:=by simp only [Prod.mk.injEq] at hq;exact hq.2.2.2.2.2.2.2.2
 exact hn ▸ h.Gh VC q' k'
theorem St.call (S:St o w p c v m n L)(h:Rd o w' p c' v' m' n')(f:Fq p v v' w w'):St o w' p c' v' m' n' L:=
 ⟨h,λa ha=>by
  obtain ⟨k,q⟩:=S.ok a ha;exact ⟨k.move λg hg=>f.keeps.block g ⟨(k.lt hg).1,q g hg⟩,λg hg=>⟨(q g hg).1,λe=>(f.own g e).elim (q g hg).2 (by have:=(k.lt hg).1;omega)⟩⟩,S.ap⟩
theorem St.below (S:St o w p c v m n L)(b:Below w.heap.size w w'):St o w' p c v m n L:=S.call (S.rd.below b) (Fq.below b)
theorem St.alloc (S:St o w p c v m n L)(ob:Obj):St o (w.alloc ob) p c v m n L:=S.below ((ag _ _).alloc (af _) ob)
theorem St.cons (S:St o w p c v m n L)(h:a.ok o.1.heap.size w/\∀g,a.dV=some g->g≠p/\v.ownBlock≠some g)(hn:∀g,a.dV=some g->∀b∈L,b.dV≠some g):St o w p c v m n (a::L):=
 ⟨S.rd,λa' ha=>by rcases bY.mp ha with rfl|ha;exact h;exact S.ok _ ha,dk.mpr ⟨λb hb g hg=>hn g hg b hb,S.ap⟩⟩
theorem St.new (S:St o w p c v m n L)(cs:Array Value)(t:TypeId):St o (w.alloc (.cells cs t)) p c v m n (.box w.heap.size cs t::L):=by
 refine (S.alloc _).cons ⟨⟨ai w _,S.rd.fr.keeps.size⟩,λg hg=>?_⟩ (λg hg b hb e=>?_)
 . cases hg;exact S.rd.away (af _)
 . cases hg;have:=((S.ok b hb).1.lt e).1;omega
theorem St.qN (S:St o w p c v m n L)(c1:Array Value)(t1:TypeId)(c2:Array Value)(t2:TypeId):St o ((w.alloc (.cells c1 t1)).alloc (.cells c2 t2)) p c v m n (.box (w.heap.size+1) c2 t2::.box w.heap.size c1 t1::L):=by
 have h:=(S.new c1 t1).new c2 t2
 rwa [show (w.alloc (.cells c1 t1)).heap.size=w.heap.size+1 from by simp] at h
theorem St.KY (S:St o w p c v m n L)(c1:Array Value)(t1:TypeId)(c2:Array Value)(t2:TypeId)(c3:Array Value)(t3:TypeId):St o (((w.alloc (.cells c1 t1)).alloc (.cells c2 t2)).alloc (.cells c3 t3)) p c v m n (.box (w.heap.size+1+1) c3 t3::.box (w.heap.size+1) c2 t2::.box w.heap.size c1 t1::L):=by
 have h:=(S.qN c1 t1 c2 t2).new c3 t3
 rwa [show ((w.alloc (.cells c1 t1)).alloc (.cells c2 t2)).heap.size=w.heap.size+1+1 from by simp] at h
theorem St.nil (S:St o w p c v m n L)(t:TypeId)(z:Nat):St o w p c v m n (.row (.slice none 0 0) t z 0::L):=
 S.cons ⟨⟨[],ia _ _ _ _⟩,λg hg=>by cases hg⟩ (λg hg=>by cases hg)
theorem St.jG (S:St o w p c v m n (a::L)):St o w p c v m n (L++[a]):=
 ⟨S.rd,λa' ha=>S.ok a' (by simpa [or_comm] using ha),by
  have h:=dk.mp S.ap;exact List.pairwise_append.mpr ⟨h.2,List.pairwise_singleton _ _,λx hx y hy g hg e=>by cases dy.mp hy;exact h.1 x hx g e hg⟩⟩
theorem St.drop (S:St o w p c v m n (a::L)):St o w p c v m n L:=⟨S.rd,λa ha=>S.ok a (dY _ ha),(dk.mp S.ap).2⟩
theorem St.put (S:St o w p c v m n (.box b cs t::L))(i:Nat)(u:Value):St o (w.setCell ⟨b,i,none⟩ u) p c v m n (.box b (cs.setIfInBounds i u) t::L):=by
 obtain ⟨⟨k1,k2⟩,k3⟩:=S.ok _ (dL ..);have h:=dk.mp S.ap;refine ⟨S.rd.put k2 (k3 b rfl).1 (k3 b rfl).2 i u,λa ha=>?_,dk.mpr h⟩;rcases bY.mp ha with rfl|ha
 . exact ⟨⟨aO w b i _ _ u k1,k2⟩,k3⟩
 . obtain ⟨j,j'⟩:=S.ok a (dY _ ha)
   exact ⟨j.move λg hg=>aD _ _ _ _ (λe=>h.1 a ha b rfl ((show g=b from e) ▸ hg)),j'⟩
theorem St.app (S:St o w p c v m n (.row s t z q::L)){q':Nat}(ho:w'.ownsRow o.1.heap.size t z (.slice (some ⟨g,0,none⟩) q' cap) q' xs)(hg:w.grownBy w' s.ownBlock)(hb:s.ownBlock=some g\/w.heap.size<=g) :
 St o w' p c v m n (.row (.slice (some ⟨g,0,none⟩) q' cap) t z q'::L):=by
 obtain ⟨k1,k3⟩:=S.ok _ (dL ..);have h:=dk.mp S.ap;have hR:=S.rd.grown hg (λg e=>⟨(k1.lt e).2,k3 g e⟩);refine ⟨hR,λa ha=>?_,dk.mpr ⟨λb Cm g' Gp e=>?_,h.2⟩⟩
 . rcases bY.mp ha with rfl|ha
   . refine ⟨⟨_,ho⟩,λg' Gp=>?_⟩
     cases Gp
     rcases hb with hb|hb
     . exact k3 g hb
     . exact S.rd.away hb
   . obtain ⟨j,j'⟩:=S.ok a (dY _ ha)
     exact ⟨j.move λg' Gp=>hg.block g' (j.lt Gp).1 (λe=>h.1 a ha g' e.symm Gp),j'⟩
 . cases Gp
   rcases hb with hb|hb
   . exact h.1 b Cm g hb e
   . exact absurd ((S.ok b (dY _ Cm)).1.lt e).1 (Nat.not_lt.mpr hb)
theorem St.box (S:St o w p c v m n (.box b cs t::L)):w.heap[b]?=some (.cells cs t (0,0)):=(S.ok _ (dL ..)).1.1
theorem St.row (S:St o w p c v m n (.row s t z q::L)):∃xs,w.ownsRow o.1.heap.size t z s q xs:=(S.ok _ (dL ..)).1
theorem St.slice (S:St o w p c v m n (.row s t z q::L)):∃a cp,s=.slice a q cp:=by
 obtain ⟨xs,h⟩:=S.row;rcases h.2 with ⟨h1,h0⟩|⟨g,cap,_,hv,_⟩
 . exact ⟨_,_,by rw [h1,h0]⟩
 . exact ⟨_,_,hv⟩
theorem St.one (S:St o w p c v m n (.box b cs t::L))(hz:cs.size=z):St o w p c v m n (.row (.slice (some ⟨b,0,none⟩) 1 1) t z 1::L):=by
 obtain ⟨⟨k1,k2⟩,k3⟩:=S.ok _ (dL ..);exact S.drop.cons ⟨⟨cs.toList,by simpa using hz,.inr ⟨b,1,cs,rfl,k2,k1,by omega,by decide,by omega,by rw [aP (by simp;omega)]⟩⟩,λg hg=>by cases hg;exact k3 b rfl⟩ (λg hg a ha=>by cases hg;exact (dk.mp S.ap).1 a ha b rfl)
theorem Rd.start (h:Rd o w p c v m n):St (w,v) w p c v m n []:=⟨⟨h.ex,Fq.refl p v w,h.lt⟩,(λ_ h=>by cases h),.nil⟩
theorem St.fin (S:St (w,v) w' p c' v' m' n' L)(h:Rd o w p c v m n):Rd o w' p c' v' m' n'/\Fq p v v' w w':=⟨⟨S.rd.ex,h.fr.trans S.rd.fr,h.lo⟩,S.rd.fr⟩
theorem kR {a b c d e:Value}{r:Nat}(h:w.heap[r]?=some (.cells #[a,b,c,d,e] t (0,0))) :
 w.cell? ⟨r,0,none⟩=some a/\w.cell? ⟨r,1,none⟩=some b/\w.cell? ⟨r,2,none⟩=some c/\w.cell? ⟨r,3,none⟩=some d/\w.cell? ⟨r,4,none⟩=some e:=by
 simp [World.cell?,h]
theorem jl {a b:Value}{r:Nat}(h:w.heap[r]?=some (.cells #[a,b] t (0,0))):w.cell? ⟨r,0,none⟩=some a/\w.cell? ⟨r,1,none⟩=some b:=by
 simp [World.cell?,h]
theorem bf {r:Nat}(h:w.heap[r]?=some (.cells cs t (0,0)))(i:Nat):w.frozen? ⟨r,i,none⟩=false:=by
 simp [World.frozen?,h]
end
section
variable {o:World×Value} {w w' w'':World} {p:Nat} {c x x':eT} {v v' v'':Value} {m m':Mode} {n n' k:Nat} {ns:List jA}
theorem Rd.aoQ (h:Rd o w p c v m n)(d:Nat):Rd o (w.setCell ⟨p,8,none⟩ (.int .i64 d)) p { c with deep:=d } v m n/\Fq p v v w (w.setCell ⟨p,8,none⟩ (.int .i64 d)):=by
 obtain ⟨x,ns,q,hs,rfl,rfl⟩:=h.ex;have hK:aQ (Other p w) w (w.setCell ⟨p,8,none⟩ (.int .i64 d)):=(aQ.refl _ _).own 8 _;refine h.Gh (x':={ x with deep:=d }) ⟨rfl,hs.word,hs.names,hs.kinds,hs.rows,hs.dU,hs.form⟩ ⟨q.pen.set 8 _ (by simp [gX]),q.laid.keeps hK q.p0,q.p0,q.zm,q.pos,q.tk,q.tn,q.tp,?_,q.own.kept (grownBy_setCell w ⟨p,8,none⟩ _) (.inr q.apart),q.apart,q.k0,q.kp,q.kv,λk hk=>by simpa [World.setCell] using q.old k hk⟩ (hK.mono q.other);have:=q.mode
 cases m<;>exact this
theorem Rd.up (h:Rd o w p { c with deep:=c.deep+1 } v m n):w.cell? ⟨p,8,none⟩=some (.int .i64 ((c.deep:Int)+1))/\w.frozen? ⟨p,8,none⟩=false/\Rd o (w.setCell ⟨p,8,none⟩ (.int .i64 c.deep)) p c v m n/\Fq p v v w (w.setCell ⟨p,8,none⟩ (.int .i64 c.deep)):=by
 obtain ⟨x,ns,q,hs,_⟩:=h.ex;have e:x.deep=c.deep+1:=hs.deep;exact ⟨(q.pen.cell 8).trans (by show some (Value.int .i64 (x.deep:Int))=_;rw [e];rfl),q.pen.fz 8,h.aoQ c.deep⟩
theorem Bd.dead (h:¬m'.alive):Bd m m' n (n+1) n:=⟨by omega,by omega,by rw [(lj h).1,(lj h).2];omega⟩
theorem Bd.over (h:Bd m.next m' n n' k)(hl:m.next.len+1=m.len):Bd m m' n (n'+1) n':=by
 have h1:=h.bud;have h2:=h.gr;exact ⟨by omega,by omega,by omega⟩
theorem Rd.X9 (h:Rd o w p c v m n)(hk:k<n):∃g cap,v=.slice (some ⟨g,0,none⟩) n cap/\w.cell? ⟨p,19,none⟩=some (.slice (some ⟨g,0,none⟩) n cap)/\g≠p/\w.frozen? ⟨g,k*7+2,none⟩=false/\∃i:Nat,w.cell? ⟨g,k*7+2,none⟩=some (.int .i64 i):=by
 obtain ⟨x,ns,q,hs,rfl,rfl⟩:=h.ex;obtain ⟨g,cap,hv,hc⟩:=q.slice (by omega);refine ⟨g,cap,hv,(q.pen.cell 19).trans (by rw [<- hv];rfl),λe=>q.apart (by rw [hv,e];rfl),by have:=q.own;rw [hv] at this;exact this.frozenAt _,_,(hc _ (by omega)).trans (Ay ns k _ (ah hk))⟩
end
theorem Ua (mC:PF 191 gM 0):PF 177 gN 0:=by
 intro o w p c v m n h hd hf;obtain ⟨_,_,i,_,_,_,c4,_,_⟩:=h.cells
 cases Dm:m.is (ByteArray.mk #[45])
 . rw [show gN (lvl 0) m=gM (lvl 0) m from aA (by show ¬m.is (ByteArray.mk #[45])=true;rw [Dm];decide)]
   go_enter Tryz.func177,Tryz.ntmps177;go_wp2_with (go_at_call 30;refine (h.is _).mono ?_;rintro r' w' ⟨rfl,rfl⟩);refine (mC o w p c v m n h hd hf).mono ?_;rintro r w1 ⟨v1,n1,k,rfl,q⟩;go_wp2_with fail;go_ret;exact ⟨v1,n1,k,rfl,q⟩
 . rw [show gN (lvl 0) m=(.junk,m.wrong 3) from aH Dm]
   go_enter Tryz.func177,Tryz.ntmps177;go_wp2_with (go_at_call 30;refine (h.is _).mono ?_;rintro r' w' ⟨rfl,rfl⟩);refine (h.Gi (by omega)).mono ?_;rintro r w1 ⟨rfl,h1,f1⟩;go_wp2_with fail;refine (h1.node ⟨⟨#[]⟩,0,0,0,0,0,⟨#[]⟩⟩ (by omega)).mono ?_;rintro r w2 ⟨v2,rfl,h2,f2⟩;go_wp2_with fail;go_ret;exact ⟨v2,_,n,rfl,h2,f1.trans f2,Bd.dead (cj m 3)⟩
theorem Ub (d:Nat)(mC:PF 191 gM (d+1))(yH:PF 177 gN d):PF 177 gN (d+1):=by
 intro o w p c v m n h hd hf;obtain ⟨_,_,i,_,_,_,c4,_,_⟩:=h.cells
 cases Dm:m.is (ByteArray.mk #[45])
 . rw [show gN (lvl (d+1)) m=gM (lvl (d+1)) m from aA (by show ¬m.is (ByteArray.mk #[45])=true;rw [Dm];decide)]
   go_enter Tryz.func177,Tryz.ntmps177;go_wp2_with (go_at_call 30;refine (h.is _).mono ?_;rintro r' w' ⟨rfl,rfl⟩);refine (mC o w p c v m n h hd hf).mono ?_;rintro r w1 ⟨v1,n1,k,rfl,q⟩;go_wp2_with fail;go_ret;exact ⟨v1,n1,k,rfl,q⟩
 . have hs:gN (lvl (d+1)) m=(.neg m.place (gN (lvl d) m.next).1,(gN (lvl d) m.next).2):=aH (show m.is qj=true from Dm)
   rw [hs];obtain ⟨e3,e4,e5⟩:=h.live Dm;go_enter Tryz.func177,Tryz.ntmps177;go_wp2_with (go_at_call 30;refine (h.is _).mono ?_;rintro r' w' ⟨rfl,rfl⟩);refine (h.down e4 (by omega)).mono ?_;rintro r w1 ⟨rfl,h1,f1⟩;go_wp2_with fail;refine (yH o w1 p _ v m.next n h1 (by show c.deep+1+d=8;omega) (by omega)).mono ?_;rintro r w3 ⟨v3,n3,j,rfl,h3,f3,b3⟩;obtain ⟨c8,z8,h4,f4⟩:=h3.up;have hb:=b3.bud;have hdu:=mM (gN (lvl d) m.next).2;go_wp2_with fail;refine (h4.node ⟨⟨#[110,101,103]⟩,i,i,j,0,0,⟨#[]⟩⟩ (by omega)).mono ?_;rintro r w5 ⟨v5,rfl,h5,f5⟩;go_wp2_with fail;go_ret;exact ⟨v5,_,n3,rfl,h5,f1.trans (f3.trans (f4.trans f5)),b3.over e5⟩
theorem Uc (mC:PF 122 mo 0):PF 92 gO 0:=by
 intro o w p c v m n h hd hf;obtain ⟨_,_,i,_,_,_,c4,_,_⟩:=h.cells
 cases Dm:m.is (ByteArray.mk #[110,111,116])
 . rw [show gO (lvl 0) m=mo (lvl 0) m from aA (by show ¬m.is (ByteArray.mk #[110,111,116])=true;rw [Dm];decide)]
   go_enter Tryz.func92,Tryz.ntmps92;go_wp2_with (go_at_call 30;refine (h.is _).mono ?_;rintro r' w' ⟨rfl,rfl⟩);refine (mC o w p c v m n h hd hf).mono ?_;rintro r w1 ⟨v1,n1,k,rfl,q⟩;go_wp2_with fail;go_ret;exact ⟨v1,n1,k,rfl,q⟩
 . rw [show gO (lvl 0) m=(.junk,m.wrong 3) from aH Dm]
   go_enter Tryz.func92,Tryz.ntmps92;go_wp2_with (go_at_call 30;refine (h.is _).mono ?_;rintro r' w' ⟨rfl,rfl⟩);refine (h.Gi (by omega)).mono ?_;rintro r w1 ⟨rfl,h1,f1⟩;go_wp2_with fail;refine (h1.node ⟨⟨#[]⟩,0,0,0,0,0,⟨#[]⟩⟩ (by omega)).mono ?_;rintro r w2 ⟨v2,rfl,h2,f2⟩;go_wp2_with fail;go_ret;exact ⟨v2,_,n,rfl,h2,f1.trans f2,Bd.dead (cj m 3)⟩
theorem Ud (d:Nat)(mC:PF 122 mo (d+1))(yH:PF 92 gO d):PF 92 gO (d+1):=by
 intro o w p c v m n h hd hf;obtain ⟨_,_,i,_,_,_,c4,_,_⟩:=h.cells
 cases Dm:m.is (ByteArray.mk #[110,111,116])
 . rw [show gO (lvl (d+1)) m=mo (lvl (d+1)) m from aA (by show ¬m.is (ByteArray.mk #[110,111,116])=true;rw [Dm];decide)]
   go_enter Tryz.func92,Tryz.ntmps92;go_wp2_with (go_at_call 30;refine (h.is _).mono ?_;rintro r' w' ⟨rfl,rfl⟩);refine (mC o w p c v m n h hd hf).mono ?_;rintro r w1 ⟨v1,n1,k,rfl,q⟩;go_wp2_with fail;go_ret;exact ⟨v1,n1,k,rfl,q⟩
 . have hs:gO (lvl (d+1)) m=(.not m.place (gO (lvl d) m.next).1,(gO (lvl d) m.next).2):=aH (show m.is wq=true from Dm)
   rw [hs];obtain ⟨e3,e4,e5⟩:=h.live Dm;go_enter Tryz.func92,Tryz.ntmps92;go_wp2_with (go_at_call 30;refine (h.is _).mono ?_;rintro r' w' ⟨rfl,rfl⟩);refine (h.down e4 (by omega)).mono ?_;rintro r w1 ⟨rfl,h1,f1⟩;go_wp2_with fail;refine (yH o w1 p _ v m.next n h1 (by show c.deep+1+d=8;omega) (by omega)).mono ?_;rintro r w3 ⟨v3,n3,j,rfl,h3,f3,b3⟩;obtain ⟨c8,z8,h4,f4⟩:=h3.up;have hb:=b3.bud;have hdu:=mM (gO (lvl d) m.next).2;go_wp2_with fail;refine (h4.node ⟨⟨#[110,111,116]⟩,i,i,j,0,0,⟨#[]⟩⟩ (by omega)).mono ?_;rintro r w5 ⟨v5,rfl,h5,f5⟩;go_wp2_with fail;go_ret;exact ⟨v5,_,n3,rfl,h5,f1.trans (f3.trans (f4.trans f5)),b3.over e5⟩
theorem or6 (a b c d e f:Bool):(a=false/\b=false/\c=false/\d=false/\e=false/\f=false)\/a=true\/(a=false/\b=true)\/(a=false/\b=false/\c=true)\/(a=false/\b=false/\c=false/\d=true)\/(a=false/\b=false/\c=false/\d=false/\e=true)\/(a=false/\b=false/\c=false/\d=false/\e=false/\f=true):=by
 cases a<;>cases b<;>cases c<;>cases d<;>cases e<;>cases f<;>simp
theorem Ya {sub:Option vI}{m:Mode}{o:ByteArray}(h:jV.find? (λo=>(iB sub m).2.is o)=some o):(mo sub m).2=(iB sub (iB sub m).2.next).2:=by
 unfold mo;simp only;rw [h]
theorem Yb {sub:Option vI}{m:Mode}(h:jV.find? (λo=>(iB sub m).2.is o)=none):(mo sub m).2=if (iB sub m).2.is kIs then (if (iB sub m).2.next.is wq then (iB sub m).2.next.next else (iB sub m).2.next).take q6 else (iB sub m).2:=by
 unfold mo;simp only;rw [h];simp only;split<;>rfl
theorem Nz (d:Nat)(hl:PF 144 iB d):PF 122 mo d:=by
 intro o w p c v m n h0 hd hf;go_enter Tryz.func122,Tryz.ntmps122;go_wp2_with fail;refine (hl o w p c v m n h0 hd hf).mono ?_;rintro r w1 ⟨v1,n1,k,rfl,h,f1,b1⟩;obtain ⟨_,t,i,_,_,c3,c4,_,_⟩:=h.cells;have Hd:∀o,jV.find? (λo=>(iB (lvl d) m).2.is o)=some o->Hid ((mo (lvl d) m).2=_):=λo ho=>hide (Ya ho);have HNO:jV.find? (λo=>(iB (lvl d) m).2.is o)=none->Hid ((mo (lvl d) m).2=_):=λa=>hide (Yb a);generalize (iB (lvl d) m).2=m1 at *;have hhi:=b1.hi;have bL:=b1.bud;have avd:=mM m1;rcases or6 (m1.is (ByteArray.mk #[61])) (m1.is (ByteArray.mk #[60,62])) (m1.is (ByteArray.mk #[60])) (m1.is (ByteArray.mk #[60,61])) (m1.is (ByteArray.mk #[62])) (m1.is (ByteArray.mk #[62,61])) with ⟨i0,i1,i2,i3,i4,i5⟩|i0|⟨i0,i1⟩|⟨i0,i1,i2⟩|⟨i0,i1,i2,i3⟩|⟨i0,i1,i2,i3,i4⟩|⟨i0,i1,i2,i3,i4,i5⟩
 . have HC:=HNO (by simp [jV,bs,i0,i1,i2,i3,i4,i5])
   clear Hd HNO
   cases i6:m1.is (ByteArray.mk #[105,115])
   . go_wp2_with (go_at_call 30;refine (h.is _).mono ?_;rintro r' w' ⟨rfl,rfl⟩)
     go_ret;refine ⟨v1,n1,k,rfl,?_⟩;rw [ae HC,aA (by show ¬m1.is (ByteArray.mk #[105,115])=true;rw [i6];decide)];exact ⟨h,f1,b1⟩
   . obtain ⟨e3,e4,e5⟩:=h.live i6
     have HE:=hide ((ae HC).trans (aH i6));rw [mL e3] at bL;go_wp2_with (go_at_call 30;refine (h.is _).mono ?_;rintro r' w' ⟨rfl,rfl⟩);refine (h.next e4).mono ?_;rintro r w2 ⟨rfl,h2,f2⟩;clear c3 c4;go_wp2_with fail;refine (h2.is _).mono ?_;rintro r' w' ⟨rfl,rfl⟩
     cases i7:m1.next.is (ByteArray.mk #[110,111,116])
     case' true=>
      obtain ⟨q3,q4,q5⟩:=h2.live i7;go_wp2_with fail;refine (h2.next q4).mono ?_;rintro r w3 ⟨rfl,h3,f3⟩
     case' false=>
      have h3:=h2;have f3:=Fq.refl p v1 w2
     all_goals
      have HE2:=hide ((ae HE).trans (aU (λm=>Mode.take q6 m) (by first|exact aH i7|exact aA (by show ¬m1.next.is (ByteArray.mk #[110,111,116])=true;rw [i7];decide))));go_wp2_with fail;refine (h3.take _).mono ?_;rintro r w4 ⟨_,rfl,h4,f4⟩;obtain ⟨g,cap,hv,c19,QJ,zf,fi,cf⟩:=h4.X9 hhi;have g1:(k:Int)<n1:=by omega
      clear hv;go_wp2_with fail;refine (h4.node ⟨_,i,fi,k,0,0,⟨#[]⟩⟩ (by omega)).mono ?_;rintro r w5 ⟨v5,rfl,h5,f5⟩;go_wp2_with fail;go_ret;refine ⟨v5,_,n1,rfl,by rw [ae HE2];exact h5,f1.trans (f2.trans (f3.trans (f4.trans f5))),?_⟩;rw [ae HE2];have hx:=bG (m:=m1.next);have iu:=b1.gr;refine ⟨by omega,by omega,?_⟩
      first
       | (have ht:=take_len m1.next q6;omega)
       | (have ht:=take_len m1.next.next q6;omega)
 all_goals
  obtain ⟨t',it,ho⟩:∃t',m1.is t'=true/\jV.find? (λo=>m1.is o)=some t':=by first|exact ⟨_,i5,by simp [jV,bs,i0,i1,i2,i3,i4,i5]⟩|exact ⟨_,i4,by simp [jV,bs,i0,i1,i2,i3,i4]⟩|exact ⟨_,i3,by simp [jV,bs,i0,i1,i2,i3]⟩|exact ⟨_,i2,by simp [jV,bs,i0,i1,i2]⟩|exact ⟨_,i1,by simp [jV,bs,i0,i1]⟩|exact ⟨_,i0,by simp [jV,bs,i0]⟩
  have HC:=Hd _ ho;obtain ⟨e3,e4,e5⟩:=h.live it;clear Hd HNO it ho;have kX:=b1.bud;rw [mL e3] at kX;go_wp2_with (go_at_call 30;refine (h.is _).mono ?_;rintro r' w' ⟨rfl,rfl⟩);refine (h.next e4).mono ?_;rintro r w2 ⟨rfl,h2,f2⟩;clear c3 c4;go_wp2_with fail;refine (hl o w2 p c v1 m1.next n1 h2 hd (by omega)).mono ?_;rintro r w3 ⟨v3,n3,j,rfl,h3,f3,b3⟩;have eD:=b3.bud;have cF:=b3.gr;have aaY:=mM (iB (lvl d) m1.next).2;go_wp2_with fail;refine (h3.two _ _ k j (by omega) (by omega)).mono ?_;rintro r w4 ⟨v4,rfl,h4,f4⟩;go_wp2_with fail;go_ret;refine ⟨v4,n3+1,n3,rfl,?_⟩;rw [ae HC];exact ⟨h4,f1.trans (f2.trans (f3.trans f4)),b1.two e3 e5 b3⟩
section
variable {o:World×Value} {w w':World} {p:Nat} {c:eT} {v:Value} {m:Mode} {n:Nat}
theorem zD (m:Mode)(e:Nat):(m.wrong e).next=m.wrong e:=by cases m<;>rfl
theorem Cg {m:Mode}(h:¬m.alive):∀t ts,m=.live t ts->t.k.ends=false:=λt ts e=>by subst e;exact absurd trivial h
theorem Rd.tok (h:Rd o w p c v m n):∃(k:Nat) (t:ByteArray) (i:Nat) (j:Int),w.cell? ⟨p,2,none⟩=some (.int .u8 k)/\w.cell? ⟨p,3,none⟩=some (.string t)/\w.cell? ⟨p,4,none⟩=some (.int .i64 i)/\w.cell? ⟨p,5,none⟩=some (.int .i64 j)/\Hid (m.alive->i=m.place)/\bZ j/\Hid (m.alive->lN k t j m.tk)/\Hid (∀s,m.is s=true->t=s):=by
 obtain ⟨x,ns,q,_⟩:=h.ex;refine ⟨_,_,_,_,q.pen.cell 2,q.pen.cell 3,q.pen.cell 4,q.pen.cell 5,hide λha=>?_,q.tn,hide λha=>?_,hide λs hs=>(Ro q.mode hs).1⟩
 all_goals
  have:=q.mode
  cases m with
  |dead _ _=>exact ha.elim
  |live t ts=>first|exact this.2.2.1|exact this.2.1
theorem ajr {k:Nat}{t:ByteArray}{j:Int}(hm:m.is qj=false)(h:m.alive->lN k t j m.tk):(((k:Int)=110\/(k:Int)=115)/\(gw m).2=m.next/\∀t ts,m=.live t ts->t.k.ends=false)\/
 (((k:Int)==110)=false/\((k:Int)==115)=false/\(gw m).2=if m.is yr then m.next else if m.is sH then m.next else if m.is q6 then m.next else m.wrong 2):=by
 have hs:gw m=_:=aA (by rw [hm];decide);have hr:∀r:qD×Mode,(∀a b c d e:qD,r=(if m.is yr then (a,m.next) else if m.is sH then (b,m.next) else if m.is q6 then (c,m.next) else (d,m.wrong 2))->r.2=if m.is yr then m.next else if m.is sH then m.next else if m.is q6 then m.next else m.wrong 2):=λr a b c d _ e=>by
  rw [e];split
  . rfl
  . split
    . rfl
    . split<;>rfl
 cases m with
 |dead e b=>
   by_cases k1:(k:Int)=110
   . exact .inl ⟨.inl k1,rfl,λ_ _ e=>by cases e⟩
   . by_cases k2:(k:Int)=115
     . exact .inl ⟨.inr k2,rfl,λ_ _ e=>by cases e⟩
     . exact .inr ⟨by rw [aj];exact k1,by rw [aj];exact k2,rfl⟩
 |live tk ts=>
   have ht:=h trivial;obtain ⟨kk,pl⟩:=tk
   cases kk<;>simp only [lN,Mode.tk] at ht
   case num=>exact .inl ⟨.inl (by omega),by rw [hs];rfl,λ_ _ e=>by cases e;rfl⟩
   case str=>exact .inl ⟨.inr (by omega),by rw [hs];rfl,λ_ _ e=>by cases e;rfl⟩
   all_goals exact .inr ⟨by rw [aj];omega,by rw [aj];omega,hr _ _ _ _ _ EL hs⟩
theorem KZ {s:ByteArray}(h:m.is s=true):∀t ts,m=.live t ts->t.k.ends=false:=λt ts e=>by subst e;exact DV h
theorem aoR {k:Nat}{t:ByteArray}{j:Int}(hm:m.is qj=false)(h:m.alive->lN k t j m.tk)(hw:∀s,m.is s=true->t=s):((gw m).2=m.next/\(∀t ts,m=.live t ts->t.k.ends=false)/\
 (((k:Int)==110)=true\/(((k:Int)==110)=false/\((k:Int)==115)=true)\/(((k:Int)==110)=false/\((k:Int)==115)=false/\m.is (ByteArray.mk #[116,114,117,101])=true/\(t.toList==[116,114,117,101])=true)\/
 (((k:Int)==110)=false/\((k:Int)==115)=false/\m.is (ByteArray.mk #[116,114,117,101])=false/\m.is (ByteArray.mk #[102,97,108,115,101])=true/\(t.toList==[116,114,117,101])=false)\/
 (((k:Int)==110)=false/\((k:Int)==115)=false/\m.is (ByteArray.mk #[116,114,117,101])=false/\m.is (ByteArray.mk #[102,97,108,115,101])=false/\m.is (ByteArray.mk #[110,117,108,108])=true)))\/
 ((gw m).2=m.wrong 2/\((k:Int)==110)=false/\((k:Int)==115)=false/\m.is (ByteArray.mk #[116,114,117,101])=false/\m.is (ByteArray.mk #[102,97,108,115,101])=false/\m.is (ByteArray.mk #[110,117,108,108])=false):=by
 rcases ajr hm h with ⟨hk,hv,he⟩|⟨k1,k2,hv⟩
 . refine .inl ⟨hv,he,?_⟩
   rcases hk with hk|hk
   . exact .inl (by rw [bz];exact hk)
   . exact .inr (.inl ⟨by rw [aj];omega,by rw [bz];exact hk⟩)
 . cases iT:m.is yr
   . rw [aA (by rw [iT];decide)] at hv
     cases iF:m.is sH
     . rw [aA (by rw [iF];decide)] at hv
       cases iN:m.is q6
       . rw [aA (by rw [iN];decide)] at hv
         exact .inr ⟨hv,k1,k2,iT,iF,iN⟩
       . rw [aH iN] at hv
         exact .inl ⟨hv,KZ iN,.inr (.inr (.inr (.inr ⟨k1,k2,iT,iF,iN⟩)))⟩
     . rw [aH iF] at hv
       exact .inl ⟨hv,KZ iF,.inr (.inr (.inr (.inl ⟨k1,k2,iT,iF,by rw [hw _ iF,dx];rfl⟩)))⟩
   . rw [aH iT] at hv
     exact .inl ⟨hv,KZ iT,.inr (.inr (.inl ⟨k1,k2,iT,by rw [hw _ iT,dx];rfl⟩))⟩
theorem aoS {m:Mode}{k:Nat}{t:ByteArray}{j:Int}(hm:m.is qj=true)(h:lN k t j m.next.tk):(((k:Int)==110)=true/\(gw m).2=m.next.next/\∀t ts,m.next=.live t ts->t.k.ends=false)\/(((k:Int)==110)=false/\(gw m).2=m.next.wrong 2):=by
 have hs:gw m=_:=aH hm
 cases hk:m.next.tk<;>(rw [hk] at h hs;simp only [lN] at h)
 case num=>exact .inl ⟨by rw [bz];omega,by rw [hs],λt ts e=>by rw [e] at hk;have QS:t.k=_:=hk;rw [QS];rfl⟩
 all_goals exact .inr ⟨by rw [aj];omega,by rw [hs]⟩
theorem Qn {m:Mode}(h:m.alive):m.next.alive:=by
 cases m with
 |dead e b=>exact h
 |live t ts=>cases ts<;>exact h
theorem Rd.value (h:Rd o w p c v m n):Calls Tryz.prog 46 #[.pointer (some ⟨p,0,none⟩)] w λr w'=>
 ∃(a k:Int) (b:Bool) (j:Int) (s:ByteArray),r=.returned (.agg #[.int .i64 a,.int .i64 k,.bool b,.int .i64 j,.string s])/\Rd o w' p c v (gw m).2 n/\Fq p v v w w':=by
 obtain ⟨k,t,i,j,c2,c3,c4,c5,hi,_,ht,hw⟩:=h.tok;have cF:=h.lt
 cases i45:m.is (ByteArray.mk #[45])
 . rcases aoR i45 (ae ht) (ae hw) with ⟨hv,he,hc⟩|⟨hv,k1,k2,iT,iF,iN⟩
   . rcases hc with k1|⟨k1,k2⟩|⟨k1,k2,iT,tT⟩|⟨k1,k2,iT,iF,tT⟩|⟨k1,k2,iT,iF,iN⟩
     all_goals
      rw [hv];go_enter Tryz.func46,Tryz.ntmps46;go_wp2_with (go_at_call 30;refine ((h.start.KY _ _ _ _ _ _).rd.is _).mono ?_;rintro r' w' ⟨rfl,rfl⟩);refine ((h.start.KY _ _ _ _ _ _).rd.next he).mono ?_;rintro r w9 ⟨rfl,h9,f9⟩;have S:=(h.start.KY _ _ _ _ _ _).call h9 f9;obtain ⟨g0,g1,g2,g3,g4⟩:=kR S.box;obtain ⟨d0,d1,d2,d3,d4⟩:=kR S.drop.drop.box;have zz:=bf S.drop.drop.box;have z0:=zz 0;have z1:=zz 1;have z2:=zz 2;have z3:=zz 3;have z4:=zz 4;clear zz;go_wp2_with fail
      (try simp only [Exit.inBlock,Exit.then])
      refine ay (v:=_) (by simp [results,Tryz.results46,go_sem,d0,d1,d2,d3,d4];rfl) rfl ?_;exact ⟨_,_,_,_,_,rfl,(((((S.jG.jG.put 0 _).put 1 _).put 2 _).put 3 _).put 4 _).fin h⟩
   . rw [hv,<- zD m 2]
     go_enter Tryz.func46,Tryz.ntmps46;go_wp2_with (go_at_call 30;refine ((h.start.KY _ _ _ _ _ _).rd.is _).mono ?_;rintro r' w' ⟨rfl,rfl⟩);refine ((h.start.KY _ _ _ _ _ _).rd.fail 2 i (by decide) hi).mono ?_;rintro r w8 ⟨rfl,h8,f8⟩;go_wp2_with fail;refine (h8.next (Cg (cj m 2))).mono ?_;rintro r w9 ⟨rfl,h9,f9⟩;have S:=((h.start.KY _ _ _ _ _ _).call h8 f8).call h9 f9;obtain ⟨g0,g1,g2,g3,g4⟩:=kR S.box;obtain ⟨d0,d1,d2,d3,d4⟩:=kR S.drop.drop.box;have zz:=bf S.drop.drop.box;have z0:=zz 0;have z1:=zz 1;have z2:=zz 2;have z3:=zz 3;have z4:=zz 4;clear zz;go_wp2_with fail
     (try simp only [Exit.inBlock,Exit.then])
     refine ay (v:=_) (by simp [results,Tryz.results46,go_sem,d0,d1,d2,d3,d4];rfl) rfl ?_;exact ⟨_,_,_,_,_,rfl,(((((S.jG.jG.put 0 _).put 1 _).put 2 _).put 3 _).put 4 _).fin h⟩
 . obtain ⟨e3,e4,e5⟩:=h.live i45
   clear ht hw;go_enter Tryz.func46,Tryz.ntmps46;go_wp2_with (go_at_call 30;refine ((h.start.KY _ _ _ _ _ _).rd.is _).mono ?_;rintro r' w' ⟨rfl,rfl⟩);refine ((h.start.KY _ _ _ _ _ _).rd.next e4).mono ?_;rintro r w1 ⟨rfl,h1,f1⟩;have S1:=(h.start.KY _ _ _ _ _ _).call h1 f1;obtain ⟨k',t',i',j',b2,_,b4,b5,Ot,hj,ht',_⟩:=h1.tok;obtain ⟨g0,g1,g2,g3,g4⟩:=kR S1.box;have z3':=bf S1.box 3;have iq:=S1.rd.lt;obtain ⟨⟨_,pb⟩,Xo⟩:=S1.ok _ (dL ..);have hq:=(Xo _ rfl).1;have hS:=hide λu=>S1.put 3 u;clear c2 c3 c4 c5 Xo;rcases aoS i45 (ae ht' (Qn e3)) with ⟨k1,hv,he⟩|⟨k1,hv⟩
   . go_wp2_with fail
     refine ((ae hS _).rd.next he).mono ?_;rintro r w9 ⟨rfl,h9,f9⟩;have S:=(ae hS _).call h9 f9;clear g0 g1 g2 g3 g4;obtain ⟨g0,g1,g2,g3,g4⟩:=kR S.box;obtain ⟨d0,d1,d2,d3,d4⟩:=kR S.drop.drop.box;have zz:=bf S.drop.drop.box;have z0:=zz 0;have z1:=zz 1;have z2:=zz 2;have z3:=zz 3;have z4:=zz 4;clear zz;go_wp2_with fail
     (try simp only [Exit.inBlock,Exit.then])
     refine ay (v:=_) (by simp [results,Tryz.results46,go_sem,d0,d1,d2,d3,d4];rfl) rfl ?_;rw [hv];exact ⟨_,_,_,_,_,rfl,(((((S.jG.jG.put 0 _).put 1 _).put 2 _).put 3 _).put 4 _).fin h⟩
   . go_wp2_with fail
     refine ((ae hS _).rd.fail 2 i' (by decide) Ot).mono ?_;rintro r w8 ⟨rfl,h8,f8⟩;go_wp2_with fail;refine (h8.next (Cg (cj m.next 2))).mono ?_;rintro r w9 ⟨rfl,h9,f9⟩;have S:=((ae hS _).call h8 f8).call h9 f9;clear g0 g1 g2 g3 g4;obtain ⟨g0,g1,g2,g3,g4⟩:=kR S.box;obtain ⟨d0,d1,d2,d3,d4⟩:=kR S.drop.drop.box;have zz:=bf S.drop.drop.box;have z0:=zz 0;have z1:=zz 1;have z2:=zz 2;have z3:=zz 3;have z4:=zz 4;clear zz;go_wp2_with fail
     (try simp only [Exit.inBlock,Exit.then])
     refine ay (v:=_) (by simp [results,Tryz.results46,go_sem,d0,d1,d2,d3,d4];rfl) rfl ?_;rw [hv,<- zD m.next 2];exact ⟨_,_,_,_,_,rfl,(((((S.jG.jG.put 0 _).put 1 _).put 2 _).put 3 _).put 4 _).fin h⟩
end
section
variable {o:World×Value} {w w':World} {p:Nat} {c:eT} {v:Value} {m:Mode} {n:Nat} {L:List Item}
theorem Rd.err (h:Rd o w p c v m n):∃e:Nat,w.cell? ⟨p,6,none⟩=some (.int .i64 e)/\((m.alive/\((e:Int)==0)=true)\/(¬m.alive/\((e:Int)==0)=false)):=by
 obtain ⟨x,ns,q,_⟩:=h.ex;refine ⟨x.e,q.pen.cell 6,?_⟩;have:=q.mode
 cases m with
 |dead _ _=>exact .inr ⟨λh=>h,by obtain ⟨h1,_,h3⟩:=this;rw [aj];omega⟩
 |live t ts=>exact .inl ⟨trivial,by have h1:=this.1;rw [bz];omega⟩
theorem Rd.aoU (h:Rd o w p c v m n)(ha:m.alive)(he:∀t ts,m=.live t ts->t.k.ends=false):m.next.len+1=m.len:=by
 obtain ⟨x,ns,q,_⟩:=h.ex
 cases m with
 |dead _ _=>exact ha.elim
 |live t ts=>
   obtain ⟨_,_,_,h4,_⟩:=q.mode;have ze:=h4 (he t ts rfl);have iq:=zU x.S x.pos;rw [<- ze] at iq
   cases ts with
   |nil=>exact absurd rfl iq
   |cons u us=>rfl
theorem ajs {sub:Option vI}{k:Nat}{t:ByteArray}{j:Int}(ha:m.alive)(hm:¬m.is cI=true)(h:lN k t j m.tk) :
 ((gM sub m).2=m.next/\(∀t ts,m=.live t ts->t.k.ends=false)/\(((k:Int)==110)=true\/(((k:Int)==110)=false/\((k:Int)==115)=true)\/(((k:Int)==110)=false/\((k:Int)==115)=false/\((k:Int)==97)=true)\/
   (((k:Int)==110)=false/\((k:Int)==115)=false/\((k:Int)==97)=false/\((k:Int)==119)=true/\(t.toList==[116,114,117,101])=true)\/
   (((k:Int)==110)=false/\((k:Int)==115)=false/\((k:Int)==97)=false/\((k:Int)==119)=true/\(t.toList==[116,114,117,101])=false/\(t.toList==[102,97,108,115,101])=true)))\/
 ((gM sub m).2=m.wrong 2/\((((k:Int)==110)=false/\((k:Int)==115)=false/\((k:Int)==97)=false/\((k:Int)==119)=false)\/
   (((k:Int)==110)=false/\((k:Int)==115)=false/\((k:Int)==97)=false/\((k:Int)==119)=true/\(t.toList==[116,114,117,101])=false/\(t.toList==[102,97,108,115,101])=false))):=by
 have hs:gM sub m=_:=aA hm;have f:∀a:Int,(k:Int)≠a->((k:Int)==a)=false:=λa h=>by rw [aj];exact h
 cases m with
 |dead _ _=>exact ha.elim
 |live tk ts=>
   obtain ⟨kk,pl⟩:=tk
   cases kk<;>simp only [lN,Mode.tk] at h
   case num=>exact .inl ⟨by rw [hs];rfl,λ_ _ e=>by cases e;rfl,.inl (by rw [bz];omega)⟩
   case str=>exact .inl ⟨by rw [hs];rfl,λ_ _ e=>by cases e;rfl,.inr (.inl ⟨f _ (by omega),by rw [bz];omega⟩)⟩
   case name=>exact .inl ⟨by rw [hs];rfl,λ_ _ e=>by cases e;rfl,.inr (.inr (.inl ⟨f _ (by omega),f _ (by omega),by rw [bz];omega⟩))⟩
   case word s=>
    have hk:((k:Int)==119)=true:=by rw [bz];omega
    have ht:=h.2.1;subst ht
    cases hT:kh t yr
    . cases hF:kh t sH
      . exact .inr ⟨by rw [hs];simp only [Mode.tk,hT,hF];rfl,.inr ⟨f _ (by omega),f _ (by omega),f _ (by omega),hk,by rw [dx];exact hT,by rw [dx];exact hF⟩⟩
      . exact .inl ⟨by rw [hs];simp only [Mode.tk,hT,hF];rfl,λ_ _ e=>by cases e;rfl,.inr (.inr (.inr (.inr ⟨f _ (by omega),f _ (by omega),f _ (by omega),hk,by rw [dx];exact hT,by rw [dx];exact hF⟩)))⟩
    . exact .inl ⟨by rw [hs];simp only [Mode.tk,hT];rfl,λ_ _ e=>by cases e;rfl,.inr (.inr (.inr (.inl ⟨f _ (by omega),f _ (by omega),f _ (by omega),hk,by rw [dx];exact hT⟩)))⟩
   all_goals exact .inr ⟨by rw [hs];rfl,.inl ⟨f _ (by omega),f _ (by omega),f _ (by omega),f _ (by omega)⟩⟩
theorem fu {a b c d e f g:Value}{r:Nat}{t:TypeId}(h:w.heap[r]?=some (.cells #[a,b,c,d,e,f,g] t (0,0))) :
 w.cell? ⟨r,0,none⟩=some a/\w.cell? ⟨r,1,none⟩=some b/\w.cell? ⟨r,2,none⟩=some c/\w.cell? ⟨r,3,none⟩=some d/\w.cell? ⟨r,4,none⟩=some e/\w.cell? ⟨r,5,none⟩=some f/\w.cell? ⟨r,6,none⟩=some g:=by
 simp [World.cell?,h]
theorem JB (d:Nat)(h:Rd o w p c v m n)(hf:n+m.len<=600)(nx:m.is (ByteArray.mk #[40])=false):Calls Tryz.prog 191 #[.pointer (some ⟨p,0,none⟩)] w λr w'=>∃(v':Value) (n' k:Nat),r=.returned (.int .i64 k)/\Rd o w' p c v' (gM (lvl d) m).2 n'/\Fq p v v' w w'/\Bd m (gM (lvl d) m).2 n n' k:=by
 obtain ⟨k,t,i,j,c2,c3,c4,c5,hi,_,ht,_⟩:=h.tok;obtain ⟨e,c6,he⟩:=h.err;have cF:=h.lt;rcases he with ⟨ha,e0⟩|⟨ha,e0⟩
 . rcases ajs (sub:=lvl d) ha (by show ¬m.is (ByteArray.mk #[40])=true;rw [nx];decide) (ae ht ha) with ⟨hv,hn,hc⟩|⟨hv,hc⟩
   . rw [hv]
     have hl:=h.aoU ha hn;clear hv ht ha;rcases hc with k1|⟨k1,k2⟩|⟨k1,k2,k3⟩|⟨k1,k2,k3,k4,k5⟩|⟨k1,k2,k3,k4,k5,k6⟩
     all_goals
      go_enter Tryz.func191,Tryz.ntmps191;go_wp2_with (go_at_call 30;refine ((h.start.qN _ _ _ _).rd.is _).mono ?_;rintro r' w' ⟨rfl,rfl⟩);refine ((h.start.qN _ _ _ _).rd.next hn).mono ?_;rintro r w1 ⟨rfl,h1,f1⟩;have S:=(h.start.qN _ _ _ _).call h1 f1;obtain ⟨d0,d1,d2,d3,d4,d5,d6⟩:=fu S.box;go_wp2_with fail;refine (h1.node ⟨_,i,i,0,0,_,t⟩ (by omega)).mono ?_;rintro r w2 ⟨v2,rfl,h2,f2⟩;go_wp2_with fail;go_ret;obtain ⟨h3,f3⟩:=(S.call h2 f2).fin h;exact ⟨v2,_,n,rfl,h3,f3,by omega,by omega,by omega⟩
   . rw [hv]
     clear hv ht ha;rcases hc with ⟨k1,k2,k3,k4⟩|⟨k1,k2,k3,k4,k5,k6⟩
     all_goals
      go_enter Tryz.func191,Tryz.ntmps191;go_wp2_with (go_at_call 30;refine ((h.start.qN _ _ _ _).rd.is _).mono ?_;rintro r' w' ⟨rfl,rfl⟩);refine ((h.start.qN _ _ _ _).rd.fail 2 i (by decide) hi).mono ?_;rintro r w1 ⟨rfl,h1,f1⟩;have S:=(h.start.qN _ _ _ _).call h1 f1;obtain ⟨d0,d1,d2,d3,d4,d5,d6⟩:=fu S.box;go_wp2_with fail;refine (h1.node ⟨_,i,i,0,0,j,t⟩ (by omega)).mono ?_;rintro r w2 ⟨v2,rfl,h2,f2⟩;go_wp2_with fail;go_ret;obtain ⟨h3,f3⟩:=(S.call h2 f2).fin h;exact ⟨v2,_,n,rfl,h3,f3,Bd.dead (cj m 2)⟩
 . have hs:(gM (lvl d) m).2=m:=by
    cases m with
    |live t ts=>exact absurd trivial ha
    |dead e b=>rfl
   rw [hs];go_enter Tryz.func191,Tryz.ntmps191;go_wp2_with fail;refine ((h.start.qN _ _ _ _).rd.node ⟨⟨#[]⟩,i,i,0,0,j,t⟩ (by omega)).mono ?_;rintro r w2 ⟨v2,rfl,h2,f2⟩;go_wp2_with fail;go_ret;obtain ⟨h3,f3⟩:=((h.start.qN _ _ _ _).call h2 f2).fin h;exact ⟨v2,_,n,rfl,h3,f3,Bd.dead ha⟩
end
theorem or4 (a b c d:Bool):(a=false/\b=false/\c=false/\d=false)\/a=true\/(a=false/\b=true)\/(a=false/\b=false/\c=true)\/(a=false/\b=false/\c=false/\d=true):=by
 cases a<;>cases b<;>cases c<;>cases d<;>simp
theorem NA {m:Mode}(h:¬m.alive)(s:ByteArray):m.is s=false:=by
 cases m with
 |live t ts=>exact absurd trivial h
 |dead e b=>rfl
theorem Qo {m:Mode}{s:ByteArray}(h:(m.take s).alive):m.alive:=by
 cases m with
 |live t ts=>trivial
 |dead e b=>exact h
theorem RN (m m1:Mode)(h:m.name.2.take vJ=m1):(jO m).2=if m1.is jE&&((if m1.is jE||m1.is x9||m1.is yL||m1.is zX then m1.next else m1.wrong 2).take cI).is eG then ((if m1.is jE||m1.is x9||m1.is yL||m1.is zX then m1.next else m1.wrong 2).take cI).take eG else ((if m1.is jE||m1.is x9||m1.is yL||m1.is zX then m1.next else m1.wrong 2).take cI).name.2.take eG:=by
 subst h;unfold jO;simp only;generalize (if (m.name.2.take vJ).is jE||(m.name.2.take vJ).is x9||(m.name.2.take vJ).is yL||(m.name.2.take vJ).is zX then (m.name.2.take vJ).next else (m.name.2.take vJ).wrong 2)=m2;split<;>rfl
theorem Gj (m:Mode):(jO m).2.len<=m.len:=by
 rw [RN m _ rfl];have h1:=aw (take_len m.name.2 vJ) (cP m);generalize m.name.2.take vJ=m1 at h1 ⊢;have h2:(if m1.is jE||m1.is x9||m1.is yL||m1.is zX then m1.next else m1.wrong 2).len<=m1.len:=by
  split
  . exact bG
  . rw [(lj (cj m1 2)).1];omega
 generalize (if m1.is jE||m1.is x9||m1.is yL||m1.is zX then m1.next else m1.wrong 2)=m2 at h2 ⊢;have h3:=take_len m2 cI;have h4:=take_len (m2.take cI) eG;have h5:=cP (m2.take cI);have h6:=take_len (m2.take cI).name.2 eG;split<;>omega
section
variable {o:World×Value} {w w':World} {p:Nat} {c:eT} {v:Value} {m:Mode} {n:Nat}
theorem Rd.made (h:Rd o w p c v m n):Calls Tryz.prog 67 #[.pointer (some ⟨p,0,none⟩)] w λr w'=>
 ∃(a1:ByteArray) (i1:Int) (a2:ByteArray) (i2:Int) (a3:ByteArray) (i3:Int) (b:Bool),r=.returned (.agg #[.string a1,.int .i64 i1,.string a2,.int .i64 i2,.string a3,.int .i64 i3,.bool b])/\Rd o w' p c v (jO m).2 n/\Fq p v v w w':=by
 have cF:=h.lt;go_enter Tryz.func67,Tryz.ntmps67;go_wp2_with fail;refine ((h.start.qN _ _ _ _).rd.name).mono ?_;rintro r w0 ⟨s0,j0,rfl,h0,f0⟩;have S:=(h.start.qN _ _ _ _).call h0 f0;obtain ⟨g0,g1,_⟩:=fu S.box;have z0:=bf S.box 0;have z1:=bf S.box 1;have S0:=(S.put 0 (.string s0)).put 1 (.int .i64 j0);go_wp2_with fail;refine (S0.rd.take _).mono ?_;rintro r w1 ⟨_,rfl,sT,f1⟩;have h1:Rd (w,v) w1 p c v (m.name.2.take vJ) n:=sT;have SA:=S0.call h1 f1;have HMS:=hide (RN m _ rfl);generalize m.name.2.take vJ=m1 at h1 SA HMS;obtain ⟨k,t,i,j,c2,c3,c4,c5,hi,_,_,hw⟩:=h1.tok;obtain ⟨y0,y1,y2,y3,y4,y5,y6⟩:=fu SA.box;have x2:=bf SA.box 2;have x3:=bf SA.box 3;have iq:=((SA.ok _ (.head _)).2 _ rfl).1;have S1:=(SA.put 3 (.int .i64 i)).put 2 (.string t);clear g0 g1 z0 z1 sT;have HC:Hid (m1.is jE=true->(t.toList==[99,111,117,110,116])=true):=hide λe=>by rw [ae hw _ e,dx];rfl
 have NS:Hid (m1.is x9=true->(t.toList==[99,111,117,110,116])=false):=hide λe=>by rw [ae hw _ e,dx];rfl
 have o8:Hid (m1.is yL=true->(t.toList==[99,111,117,110,116])=false):=hide λe=>by rw [ae hw _ e,dx];rfl
 have Ps:Hid (m1.is zX=true->(t.toList==[99,111,117,110,116])=false):=hide λe=>by rw [ae hw _ e,dx];rfl
 clear hw;rcases or4 (m1.is (ByteArray.mk #[99,111,117,110,116])) (m1.is (ByteArray.mk #[115,117,109])) (m1.is (ByteArray.mk #[109,105,110])) (m1.is (ByteArray.mk #[109,97,120])) with ⟨i0,i1,i2,i3⟩|i0|⟨i0,i1⟩|⟨i0,i1,i2⟩|⟨i0,i1,i2,i3⟩
 . have yG:(m1.is jE||m1.is x9||m1.is yL||m1.is zX)=false:=by rw [show m1.is jE=false from i0,show m1.is x9=false from i1,show m1.is yL=false from i2,show m1.is zX=false from i3];rfl
   have HM:=hide ((ae HMS).trans (aA (by rw [show m1.is jE=false from i0,Bool.false_and];decide)));rw [yG] at HM;clear yG;by_cases tc:(t.toList==[99,111,117,110,116])=true
   case' neg=>have tc':(t.toList==[99,111,117,110,116])=false:=by simpa using tc
   case' pos=>have tc':=tc
   all_goals
    clear tc;go_wp2_with (go_at_call 30;refine (S1.rd.is _).mono ?_;rintro r' w' ⟨rfl,rfl⟩);refine (S1.rd.fail 2 i (by decide) hi).mono ?_;rintro r w2 ⟨rfl,h2,f2⟩;clear y0 y1 y2 y3 y4 y5 y6 x2 x3 c2 c3 c4 c5;go_wp2_with fail;refine (h2.take _).mono ?_;rintro r w3 ⟨_,rfl,h3,f3⟩;have S3:=(S1.call h2 f2).call h3 f3;have vQ:=NA (λha=>cj m1 2 (Qo (s:=ByteArray.mk #[40]) ha)) (ByteArray.mk #[41]);obtain ⟨y0,y1,y2,y3,y4,y5,y6⟩:=fu S3.box;go_wp2_with (go_at_call 30;refine (S3.rd.is _).mono ?_;rintro r' w' ⟨rfl,rfl⟩);refine (S3.rd.name).mono ?_;rintro r w4 ⟨s4,j4,rfl,h4,f4⟩;have S4:=S3.call h4 f4;obtain ⟨_,_,_,_,k4,k5,_⟩:=fu S4.box;have x4:=bf S4.box 4;have x5:=bf S4.box 5;have S5:=(S4.put 4 (.string s4)).put 5 (.int .i64 j4);clear y0 y1 y2 y3 y4 y5 y6;go_wp2_with fail;refine (S5.rd.take _).mono ?_;rintro r w6 ⟨_,rfl,h6,f6⟩;have S6:=S5.call h6 f6;obtain ⟨d0,d1,d2,d3,d4,d5,d6⟩:=fu S6.drop.box;obtain ⟨g0,g1,g2,g3,g4,g5,g6⟩:=fu S6.box;have zz:=bf S6.drop.box;have z0:=zz 0;have z1:=zz 1;have z2:=zz 2;have z3:=zz 3;have z4:=zz 4;have z5:=zz 5;have z6:=zz 6;clear zz;go_wp2_with fail
    (try simp only [Exit.inBlock,Exit.then])
    refine ay (v:=_) (by simp [results,Tryz.results67,go_sem,d0,d1,d2,d3,d4,d5,d6];rfl) rfl ?_;refine ⟨_,_,_,_,_,_,_,rfl,?_⟩;rw [ae HM];exact (((((((S6.jG.put 0 _).put 1 _).put 2 _).put 3 _).put 4 _).put 5 _).put 6 _).fin h
 all_goals
  have yG:(m1.is jE||m1.is x9||m1.is yL||m1.is zX)=true:=by first|rw [show m1.is jE=true from i0];rfl|rw [show m1.is jE=false from i0,show m1.is x9=true from i1];rfl|rw [show m1.is jE=false from i0,show m1.is x9=false from i1,show m1.is yL=true from i2];rfl|rw [show m1.is jE=false from i0,show m1.is x9=false from i1,show m1.is yL=false from i2,show m1.is zX=true from i3];rfl
  rw [yG] at HMS;obtain ⟨tt,it⟩:∃tt,m1.is tt=true:=by first|exact ⟨_,i3⟩|exact ⟨_,i2⟩|exact ⟨_,i1⟩|exact ⟨_,i0⟩
  obtain ⟨e3,e4,e5⟩:=S1.rd.live it;clear yG it;go_wp2_with (go_at_call 30;refine (S1.rd.is _).mono ?_;rintro r' w' ⟨rfl,rfl⟩);refine (S1.rd.next e4).mono ?_;rintro r w2 ⟨rfl,h2,f2⟩;clear y0 y1 y2 y3 y4 y5 y6 x2 x3 c2 c3 c4 c5;go_wp2_with fail;refine (h2.take _).mono ?_;rintro r w3 ⟨_,rfl,h3',f3⟩;have h3:Rd (w,v) w3 p c v (m1.next.take cI) n:=h3';have S3:=(S1.call h2 f2).call h3 f3;clear h3';obtain ⟨y0,y1,y2,y3,y4,y5,y6⟩:=fu S3.box;have HD:Hid ((((t.toList==[99,111,117,110,116])=false\/((t.toList==[99,111,117,110,116])=true/\(m1.next.take cI).is (ByteArray.mk #[41])=false))/\(jO m).2=(m1.next.take cI).name.2.take eG)\/((t.toList==[99,111,117,110,116])=true/\(m1.next.take cI).is (ByteArray.mk #[41])=true/\(jO m).2=(m1.next.take cI).take eG)):=by
   have hms:=ae HMS;simp only [if_true] at hms
   first
    | (have i0':m1.is jE=false:=i0
       rw [i0'] at hms;exact hide (.inl ⟨.inl (by first|exact ae NS i1|exact ae o8 i2|exact ae Ps i3),hms⟩))
    | (have i0':m1.is jE=true:=i0
       rw [i0'] at hms
       cases icl:(m1.next.take cI).is (ByteArray.mk #[41])
       . rw [show (m1.next.take cI).is eG=false from icl] at hms
         exact hide (.inl ⟨.inr ⟨ae HC i0,rfl⟩,hms⟩)
       . rw [show (m1.next.take cI).is eG=true from icl] at hms
         exact hide (.inr ⟨ae HC i0,rfl,hms⟩))
  clear HC NS o8 Ps HMS;generalize m1.next.take cI=m2 at h3 S3 HD;rcases ae HD with ⟨tc|⟨tc,icl⟩,hm⟩|⟨tc,icl,hm⟩
  case' inr=>
   have z6':=bf S3.box 6;have S5:=S3.put 6 (.bool true);have HM:=hide hm;clear hm;go_wp2_with (go_at_call 30;refine (S3.rd.is _).mono ?_;rintro r' w' ⟨rfl,rfl⟩)
  case' inl.inl=>
   have HM:=hide hm;clear hm;go_wp2_with (go_at_call 30;refine (S3.rd.is _).mono ?_;rintro r' w' ⟨rfl,rfl⟩);refine (S3.rd.name).mono ?_;rintro r w4 ⟨s4,j4,rfl,h4,f4⟩;have S4:=S3.call h4 f4;obtain ⟨_,_,_,_,k4,k5,_⟩:=fu S4.box;have x4:=bf S4.box 4;have x5:=bf S4.box 5;have S5:=(S4.put 4 (.string s4)).put 5 (.int .i64 j4);clear y0 y1 y2 y3 y4 y5 y6;have y0:=k4;have y1:=k4;have y2:=k4;have y3:=k4;have y4:=k4;have y5:=k4;have y6:=k4;go_wp2_with fail
  case' inl.inr=>
   have HM:=hide hm;clear hm;go_wp2_with (go_at_call 30;refine (S3.rd.is _).mono ?_;rintro r' w' ⟨rfl,rfl⟩);refine (S3.rd.name).mono ?_;rintro r w4 ⟨s4,j4,rfl,h4,f4⟩;have S4:=S3.call h4 f4;obtain ⟨_,_,_,_,k4,k5,_⟩:=fu S4.box;have x4:=bf S4.box 4;have x5:=bf S4.box 5;have S5:=(S4.put 4 (.string s4)).put 5 (.int .i64 j4);clear y0 y1 y2 y3 y4 y5 y6;have y0:=k4;have y1:=k4;have y2:=k4;have y3:=k4;have y4:=k4;have y5:=k4;have y6:=k4;go_wp2_with fail
  all_goals
   clear y0 y1 y2 y3 y4 y5 y6;refine (S5.rd.take _).mono ?_;rintro r w6 ⟨_,rfl,h6,f6⟩;have S6:=S5.call h6 f6;obtain ⟨d0,d1,d2,d3,d4,d5,d6⟩:=fu S6.drop.box;obtain ⟨g0,g1,g2,g3,g4,g5,g6⟩:=fu S6.box;have zz:=bf S6.drop.box;have z0:=zz 0;have z1:=zz 1;have z2:=zz 2;have z3:=zz 3;have z4:=zz 4;have z5:=zz 5;have z6:=zz 6;clear zz;go_wp2_with fail
   (try simp only [Exit.inBlock,Exit.then])
   refine ay (v:=_) (by simp [results,Tryz.results67,go_sem,d0,d1,d2,d3,d4,d5,d6];rfl) rfl ?_;refine ⟨_,_,_,_,_,_,_,rfl,?_⟩;rw [ae HM];exact (((((((S6.jG.put 0 _).put 1 _).put 2 _).put 3 _).put 4 _).put 5 _).put 6 _).fin h
end
theorem Tryz.Bc:(Tryz.prog.info? 34).map (λi=>(i.zero,i.size,i.bytes))=some (some (.agg #[.string ByteArray.empty,.int .i64 0]),2,24):=by kernel_rfl
section
variable {o:World×Value} {w w':World} {p:Nat} {c:eT} {v:Value} {m:Mode} {n:Nat}
theorem Rd.kind (h:Rd o w p c v m n):Calls Tryz.prog 45 #[.pointer (some ⟨p,0,none⟩)] w λr w'=>
 ∃k:Nat,r=.returned (.int .i64 k)/\Rd o w' p c v (mF m).2 n/\Fq p v v w w':=by
 cases i0:m.is (ByteArray.mk #[105,110,116])
 . have n0:¬m.is ac7=true:=λh=>by have h':m.is (ByteArray.mk #[105,110,116])=true:=h;rw [i0] at h';cases h'
   cases i1:m.is (ByteArray.mk #[115,116,114])
   . have n1:¬m.is ac8=true:=λh=>by have h':m.is (ByteArray.mk #[115,116,114])=true:=h;rw [i1] at h';cases h'
     rw [show mF m=(2,m.take QU) from (aA n0).trans (aA n1)];go_enter Tryz.func45,Tryz.ntmps45;go_wp2_with (go_at_call 30;refine (h.is _).mono ?_;rintro r' w' ⟨rfl,rfl⟩);refine (h.take _).mono ?_;rintro r w1 ⟨_,rfl,q⟩;go_wp2_with fail;go_ret;exact ⟨2,rfl,q⟩
   . rw [show mF m=(1,m.next) from (aA n0).trans (aH i1)]
     go_enter Tryz.func45,Tryz.ntmps45;go_wp2_with (go_at_call 30;refine (h.is _).mono ?_;rintro r' w' ⟨rfl,rfl⟩);refine (h.next (h.live i1).2.1).mono ?_;rintro r w1 ⟨rfl,q⟩;go_wp2_with fail;go_ret;exact ⟨1,rfl,q⟩
 . rw [show mF m=(0,m.next) from aH i0]
   go_enter Tryz.func45,Tryz.ntmps45;go_wp2_with (go_at_call 30;refine (h.is _).mono ?_;rintro r' w' ⟨rfl,rfl⟩);refine (h.next (h.live i0).2.1).mono ?_;rintro r w1 ⟨rfl,q⟩;go_wp2_with fail;go_ret;exact ⟨0,rfl,q⟩
theorem Rd.names (h:Rd o w p c v m n)(hm:m.len<=600):Calls Tryz.prog 47 #[.pointer (some ⟨p,0,none⟩)] w λr w'=>
 ∃(a:Option Addr) (q k:Nat),r=.returned (.slice a q k)/\Rd o w' p c v (gu m).2 n/\Fq p v v w w':=by
 obtain ⟨i0,hi,jS,jD,jv⟩:=info_parts Tryz.Bc;go_enter Tryz.func47,Tryz.ntmps47;go_wp2_with fail;refine (h.start.rd.name).mono ?_;rintro r w1 ⟨s1,j1,rfl,h1,f1⟩;have S1:=((h.start.call h1 f1).qN #[.string s1,.int .i64 j1] 34 #[.string s1,.int .i64 j1] 34).one (z:=2) rfl;have Ip:=cP m;go_wp2_with fail;go_loopw [4] (λs wr=>∃(m':Mode) (l:List Nm) (f q:Nat) (a b:Value),St (w,v) wr p c v m' n [.row s 34 2 q,.box w1.heap.size #[a,b] 34]/\m'.len<=f/\q+m'.len<=m.len+1/\Hid (fm Mode.name f l m'=gu m)) (λs _=>2000 - lenOf s)
 case atStart=>exact ⟨_,_,_,_,_,_,S1,af _,by omega,hide rfl⟩
 case round=>
  obtain ⟨m',l,f,q,a,b,S,hfu,yX,HC⟩:=hrel;obtain ⟨va,vc,rfl⟩:=S.slice
  cases ic:m'.is (ByteArray.mk #[44])
  . have HF:=hide ((lT (show m'.is kj=false from ic)).symm.trans (ae HC))
    go_wp2_with (go_at_call 30;refine (S.rd.is _).mono ?_;rintro r' w' ⟨rfl,rfl⟩);go_ret;refine ⟨_,_,_,rfl,?_⟩;rw [<- ae HF];exact S.fin h
  . obtain ⟨e3,e4,e5⟩:=S.rd.live ic
    obtain ⟨f,rfl⟩:∃g,f=g+1:=⟨f - 1,by omega⟩;have o8:=hide (lS (ae HC) (show m'.is kj=true from ic));go_wp2_with (go_at_call 30;refine (S.rd.is _).mono ?_;rintro r' w' ⟨rfl,rfl⟩);refine (S.rd.next e4).mono ?_;rintro r w2 ⟨rfl,h2,f2⟩;have S2:=S.call h2 f2;go_wp2_with fail;refine (h2.name).mono ?_;rintro r w3 ⟨s3,j3,rfl,h3,f3⟩;have S3:=S2.call h3 f3;have hbx:=S3.drop.box;obtain ⟨t0,t1⟩:=jl hbx;have z0:=bf hbx 0;have z1:=bf hbx 1;have Mz:=cP m'.next;have S4:=((S3.jG.put 0 (.string s3)).put 1 (.int .i64 j3)).alloc (.cells #[.string s3,.int .i64 j3] 34);obtain ⟨xs,own⟩:=S4.jG.row;have HO:=hide own;have Gv:=hide (World.news_of_block (ai ((w3.setCell ⟨w1.heap.size,0,none⟩ (.string s3)).setCell ⟨w1.heap.size,1,none⟩ (.int .i64 j3)) (.cells #[.string s3,.int .i64 j3] 34 (0,0))));have kd:((w3.setCell ⟨w1.heap.size,0,none⟩ (.string s3)).setCell ⟨w1.heap.size,1,none⟩ (.int .i64 j3)).heap.size=w3.heap.size:=by simp [World.setCell]
    rw [kd] at Gv;have nN:=S.rd.fr.keeps.size;have nQ:=f2.keeps.size;have tq:=f3.keeps.size;clear own hbx;go_wp2_with (at_builtin;refine cA _ rfl (.tmp 15) (.tmp 17) 35 rfl w.heap.size 34 i0 _ 2 24 Tryz.underlying35 hi jS jD jv rfl (by decide) _ _ _ rfl (ae HO) ⟨w3.heap.size,0,none⟩ 1 1 [.string s3,.int .i64 j3] rfl rfl (ae Gv) ?c2 (by decide) ?c3 ?c4 ?c5 ?_)
    case c2=>intro u hu;simp at hu;rcases hu with rfl|rfl<;>rfl
    case c3=>unfold maxLen;omega
    case c4=>omega
    case c5=>simp [World.setCell] at nN ⊢;omega
    intro g cap w5 br bE bW;have S5:=S4.jG.app br bE (by simpa [World.setCell] using bW);clear br bE bW;go_wp2_with fail;go_roundw
    case rel=>exact ⟨_,_,f,_,_,_,S5,by omega,by omega,o8⟩
    case measure=>simp [lenOf];omega
end
theorem Qp (ns:List jA)(k f:Nat)(hk:k<ns.length):∃ns':List jA,ns'.length=ns.length/\nH ns'=(nH ns).set (k*7+2) (.int .i64 f):=by
 refine ⟨ns.modify k (λv=>{ v with first:=f }),by simp,?_⟩;refine cX λq=>?_;rw [bq];obtain ⟨j,i,hi,rfl⟩:∃j i,i<7/\q=j*7+i:=⟨q / 7,q % 7,Nat.mod_lt _ (by decide),by omega⟩;rw [zk _ j i hi,zk _ j i hi,Pn,List.getElem?_modify];by_cases YB:k=j
 . subst YB
   rw [ah hk];by_cases hi2:i=2
   . subst hi2
     rw [aH rfl,aH (by omega)];simp [rX]
   . rw [aA (by omega)]
     simp only [if_true,Option.map_eq_map,Option.map_some,Option.bind_some]
     match i,hi,hi2 with
     |0,_,_=>rfl
     |1,_,_=>rfl
     |3,_,_=>rfl
     |4,_,_=>rfl
     |5,_,_=>rfl
     |6,_,_=>rfl
 . rw [aA (by omega)]
   simp [YB]
section
variable {o:World×Value} {w w':World} {p:Nat} {c:eT} {v:Value} {m:Mode} {n:Nat} {L:List Item}
theorem Rd.first {g cap k:Nat}(h:Rd o w p c (.slice (some ⟨g,0,none⟩) n cap) m n)(hk:k<n)(f:Nat):Rd o (w.setCell ⟨g,k*7+2,none⟩ (.int .i64 f)) p c (.slice (some ⟨g,0,none⟩) n cap) m n/\Fq p (.slice (some ⟨g,0,none⟩) n cap) (.slice (some ⟨g,0,none⟩) n cap) w (w.setCell ⟨g,k*7+2,none⟩ (.int .i64 f)):=by
 obtain ⟨x,ns,q,hs,hv,rfl⟩:=h.ex;obtain ⟨ns',hl,hn⟩:=Qp ns k f hk;rw [<- hv] at q ⊢;have hgK:¬U7 p x.nodes w g:=q.kv g (by rw [hv];rfl);have QJ:g≠p:=λe=>q.apart (by rw [hv,e];rfl);have hKK:aQ (U7 p x.nodes w) w (w.setCell ⟨g,k*7+2,none⟩ (.int .i64 f)):=(aQ.refl _ w).setCell (p:=⟨g,k*7+2,none⟩) hgK _;have br:=q.own;rw [hv] at br;obtain ⟨o1,_⟩:=br.stored (k*7+2) (.int .i64 f);have h':Rd o w p c x.nodes m ns.length:=hv ▸ h;have q':fX (U7 p x.nodes w) (w.setCell ⟨g,k*7+2,none⟩ (.int .i64 f)) p x m ns':=⟨q.pen.eo (aD _ _ _ _ (Ne.symm QJ)),λi s hs=>(hKK.cell (p:=⟨0,i,none⟩) q.k0).trans (q.laid i s hs),q.p0,q.zm,q.pos,q.tk,q.tn,q.tp,q.mode,by rw [hl,hn,hv];exact o1,q.apart,q.k0,q.kp,q.kv,λk hk=>aF (q.old k hk) hKK.size⟩;have:=h'.Gh hs q' hKK
 rwa [hl] at this
theorem Ue {m:Mode}{s:ByteArray}(h:¬m.alive):m.take s=m:=by
 cases m with
 |live t ts=>exact absurd trivial h
 |dead e b=>rfl
theorem Bd.acx {m m3:Mode}{n n3 k:Nat}(s:ByteArray)(b:Bd m.next m3 n n3 k)(hl:m.next.len+1=m.len):Bd m (m3.take s) n n3 k:=by
 have h1:=b.bud;refine ⟨b.hi,b.gr,?_⟩;by_cases ha:m3.alive
 . have h2:=take_len m3 s
   rw [mL ha] at h1;omega
 . rw [Ue ha];omega
theorem NB {a b c d:Value}{r:Nat}{t:TypeId}(h:w.heap[r]?=some (.cells #[a,b,c,d] t (0,0))):w.cell? ⟨r,0,none⟩=some a/\w.cell? ⟨r,1,none⟩=some b/\w.cell? ⟨r,2,none⟩=some c/\w.cell? ⟨r,3,none⟩=some d:=by
 simp [World.cell?,h]
theorem Uf:PF 191 gM 0:=by
 intro o w p c v m n h hd hf
 cases Dm:m.is (ByteArray.mk #[40])
 . exact JB 0 h hf Dm
 . obtain ⟨k,t,i,j,c2,c3,c4,c5,hi,_,_,_⟩:=h.tok
   obtain ⟨e,c6,he⟩:=h.err;have e0:((e:Int)==0)=true:=by
    rcases he with h'|h'
    . exact h'.2
    . exact absurd (h.live Dm).1 h'.1
   have cF:=h.lt;rw [show gM (lvl 0) m=(.junk,m.wrong 3) from aH Dm];go_enter Tryz.func191,Tryz.ntmps191;go_wp2_with (go_at_call 30;refine ((h.start.qN _ _ _ _).rd.is _).mono ?_;rintro r' w' ⟨rfl,rfl⟩);refine ((h.start.qN _ _ _ _).rd.Gi (by omega)).mono ?_;rintro r w1 ⟨rfl,h1,f1⟩;have S:=(h.start.qN _ _ _ _).call h1 f1;obtain ⟨d0,d1,d2,d3,d4,d5,d6⟩:=fu S.box;go_wp2_with fail;refine (h1.node ⟨⟨#[]⟩,i,i,0,0,j,t⟩ (by omega)).mono ?_;rintro r w2 ⟨v2,rfl,h2,f2⟩;go_wp2_with fail;go_ret;obtain ⟨h3,f3⟩:=(S.call h2 f2).fin h;exact ⟨v2,_,n,rfl,h3,f3,Bd.dead (cj m 3)⟩
theorem Ug (d:Nat)(hx:PF 48 j9 d):PF 191 gM (d+1):=by
 intro o w p c v m n h hd hf
 cases Dm:m.is (ByteArray.mk #[40])
 . exact JB (d+1) h hf Dm
 . obtain ⟨k,t,i,j,c2,c3,c4,c5,_,_,_,_⟩:=h.tok
   obtain ⟨e,c6,he⟩:=h.err;obtain ⟨e3,e4,e5⟩:=h.live Dm;have e0:((e:Int)==0)=true:=by
    rcases he with h'|h'
    . exact h'.2
    . exact absurd e3 h'.1
   have cF:=h.lt;have hs:gM (lvl (d+1)) m=((j9 (lvl d) m.next).1,(j9 (lvl d) m.next).2.take eG):=aH Dm;rw [hs];go_enter Tryz.func191,Tryz.ntmps191;go_wp2_with (go_at_call 30;refine ((h.start.qN _ _ _ _).rd.is _).mono ?_;rintro r' w' ⟨rfl,rfl⟩);refine ((h.start.qN _ _ _ _).rd.down e4 (by omega)).mono ?_;rintro r w1 ⟨rfl,h1,f1⟩;have S1:=(h.start.qN _ _ _ _).call h1 f1;clear c2 c3 c4 c5 c6;go_wp2_with fail;refine (hx _ w1 p _ v m.next n h1 (by show c.deep+1+d=8;omega) (by omega)).mono ?_;rintro r w3 ⟨v3,n3,k3,rfl,h3,f3,b3⟩;go_wp2_with fail;refine (h3.take _).mono ?_;rintro r w4 ⟨_,rfl,h4,f4⟩;have S4:=(S1.call h3 f3).call h4 f4;obtain ⟨_,_,t2,_⟩:=NB S4.drop.box;obtain ⟨c8,z8,h5,f5⟩:=h4.up;obtain ⟨g,cap,rfl,c19,QJ,zf,fi,cf⟩:=h4.X9 b3.hi;have g1:(k3:Int)<n3:=by have:=b3.hi;omega
   have hq:=(S4.ok _ (.tail _ (.head _))).2 _ rfl;have hpr:=hq.1;have iu:g≠w.heap.size:=λe=>hq.2 (aU some e);obtain ⟨h6,f6⟩:=h5.first b3.hi i
   have S6:=(S4.call h5 f5).call h6 f6;have S7:=hide S6;clear hq;go_wp2_with fail;go_region
   all_goals
    go_wp2_with fail;go_ret;have S8:=ae S7
    first
     | (obtain ⟨h9,f9⟩:=S8.fin h;exact ⟨_,n3,k3,rfl,h9,f9,b3.acx _ e5⟩)
     | (obtain ⟨h9,f9⟩:=(S8.call S8.rd.drew.1 S8.rd.drew.2).fin h;exact ⟨_,n3,k3,rfl,h9,f9,b3.acx _ e5⟩)
theorem Uh (d:Nat):PF 177 gN d/\PF 92 gO d/\PF 48 j9 d:=by
 induction d with
 |zero=>
   have ht:=Ua Uf;have hd:=Uc (Nz 0 (JA 0 (Nw 0 ht)));exact ⟨ht,hd,Ny 0 (Nx 0 hd)⟩
 |succ d ih=>
   have ht:=Ub d (Ug d ih.2.2) ih.1;have hd:=Ud d (Nz (d+1) (JA (d+1) (Nw (d+1) ht))) ih.2.1;exact ⟨ht,hd,Ny (d+1) (Nx (d+1) hd)⟩
theorem K4:PF 48 j9 8:=(Uh 8).2.2
end
theorem Tryz.RO:(Tryz.prog.info? 3).map (λi=>(i.zero,i.size,i.bytes))=some (some (.int .i64 0),1,8):=by kernel_rfl
theorem NC (m:Mode):(mF m).2.len<=m.len:=by
 have h1:m.next.len<=m.len:=bG;unfold mF;split
 . exact h1
 . split
   . exact h1
   . exact take_len m QU
section
variable {o:World×Value} {w w':World} {p:Nat} {c:eT} {v:Value} {m:Mode} {n:Nat} {L:List Item}
theorem St.drew (S:St o w p c v m n L):St o w.drew p c v m n L:=S.call S.rd.drew.1 S.rd.drew.2
theorem Rd.j8 (h:Rd o w p c v m n):w.cell? ⟨p,14,none⟩=some c.names/\w.cell? ⟨p,15,none⟩=some c.kinds/\w.cell? ⟨p,16,none⟩=some c.rows/\w.cell? ⟨p,18,none⟩=some c.dU/\∀i,w.frozen? ⟨p,i,none⟩=false:=by
 obtain ⟨x,ns,q,hs,_⟩:=h.ex;exact ⟨(q.pen.cell 14).trans (aU some hs.names),(q.pen.cell 15).trans (aU some hs.kinds),(q.pen.cell 16).trans (aU some hs.rows),(q.pen.cell 18).trans (aU some hs.dU),q.pen.fz⟩
theorem Rd.oR (h:Rd o w p c v m n):∃a0 a1 a2 a3 a4 a5,w.cell? ⟨p,10,none⟩=some a0/\w.cell? ⟨p,11,none⟩=some a1/\w.cell? ⟨p,12,none⟩=some a2/\w.cell? ⟨p,13,none⟩=some a3/\w.cell? ⟨p,17,none⟩=some a4/\w.cell? ⟨p,9,none⟩=some a5:=by
 obtain ⟨x,ns,q,hs,_⟩:=h.ex;exact ⟨_,_,_,_,_,_,q.pen.cell 10,q.pen.cell 11,q.pen.cell 12,q.pen.cell 13,q.pen.cell 17,q.pen.cell 9⟩
theorem St.Ui (S:St o w p c v m n L)(u:Value):St o (w.setCell ⟨p,9,none⟩ u) p { c with word:=u } v m n L:=
 have k:=S.rd.Y4 (c':={ c with word:=u }) 9 u (λx hs=>⟨{ x with word:=u },by simp [gX],⟨hs.deep,rfl,hs.names,hs.kinds,hs.rows,hs.dU,hs.form⟩,rfl⟩)
 S.call k.1 k.2
theorem St.ND (S:St o w p c v m n L)(s:ByteArray)(i:Int):St o ((w.setCell ⟨p,10,none⟩ (.string s)).setCell ⟨p,11,none⟩ (.int .i64 i)) p c v m n L:=
 have k:=S.rd.Y4 (c':=c) 10 (.string s) (λx hs=>⟨{ x with GZ:=.string s },by simp [gX],⟨hs.deep,hs.word,hs.names,hs.kinds,hs.rows,hs.dU,⟨s,rfl⟩,hs.form.2⟩,rfl⟩);have k':=k.1.Y4 (c':=c) 11 (.int .i64 i) (λx hs=>⟨{ x with G3:=.int .i64 i },by simp [gX],⟨hs.deep,hs.word,hs.names,hs.kinds,hs.rows,hs.dU,hs.form.1,⟨i,rfl⟩,hs.form.2.2⟩,rfl⟩)
 (S.call k.1 k.2).call k'.1 k'.2
theorem St.acy (S:St o w p c v m n L)(s:ByteArray)(i:Int):St o ((w.setCell ⟨p,12,none⟩ (.string s)).setCell ⟨p,13,none⟩ (.int .i64 i)) p c v m n L:=
 have k:=S.rd.Y4 (c':=c) 12 (.string s) (λx hs=>⟨{ x with G4:=.string s },by simp [gX],⟨hs.deep,hs.word,hs.names,hs.kinds,hs.rows,hs.dU,hs.form.1,hs.form.2.1,⟨s,rfl⟩,hs.form.2.2.2⟩,rfl⟩);have k':=k.1.Y4 (c':=c) 13 (.int .i64 i) (λx hs=>⟨{ x with G5:=.int .i64 i },by simp [gX],⟨hs.deep,hs.word,hs.names,hs.kinds,hs.rows,hs.dU,hs.form.1,hs.form.2.1,hs.form.2.2.1,⟨i,rfl⟩,hs.form.2.2.2.2⟩,rfl⟩)
 (S.call k.1 k.2).call k'.1 k'.2
theorem St.acz (S:St o w p c v m n L)(u:Value):St o (w.setCell ⟨p,14,none⟩ u) p { c with names:=u } v m n L:=
 have k:=S.rd.Y4 (c':={ c with names:=u }) 14 u (λx hs=>⟨{ x with names:=u },by simp [gX],⟨hs.deep,hs.word,rfl,hs.kinds,hs.rows,hs.dU,hs.form⟩,rfl⟩)
 S.call k.1 k.2
theorem St.aju (S:St o w p c v m n L)(u:Value):St o (w.setCell ⟨p,15,none⟩ u) p { c with kinds:=u } v m n L:=
 have k:=S.rd.Y4 (c':={ c with kinds:=u }) 15 u (λx hs=>⟨{ x with kinds:=u },by simp [gX],⟨hs.deep,hs.word,hs.names,rfl,hs.rows,hs.dU,hs.form⟩,rfl⟩)
 S.call k.1 k.2
theorem St.ajv (S:St o w p c v m n L)(u:Value):St o (w.setCell ⟨p,16,none⟩ u) p { c with rows:=u } v m n L:=
 have k:=S.rd.Y4 (c':={ c with rows:=u }) 16 u (λx hs=>⟨{ x with rows:=u },by simp [gX],⟨hs.deep,hs.word,hs.names,hs.kinds,rfl,hs.dU,hs.form⟩,rfl⟩)
 S.call k.1 k.2
theorem St.ajw (S:St o w p c v m n L)(i:Int):St o (w.setCell ⟨p,17,none⟩ (.int .i64 i)) p c v m n L:=
 have k:=S.rd.Y4 (c':=c) 17 (.int .i64 i) (λx hs=>⟨{ x with cond:=.int .i64 i },by simp [gX],⟨hs.deep,hs.word,hs.names,hs.kinds,hs.rows,hs.dU,hs.form.1,hs.form.2.1,hs.form.2.2.1,hs.form.2.2.2.1,i,rfl⟩,rfl⟩)
 S.call k.1 k.2
theorem St.acA (S:St o w p c v m n L)(u:Value):St o (w.setCell ⟨p,18,none⟩ u) p { c with dU:=u } v m n L:=
 have k:=S.rd.Y4 (c':={ c with dU:=u }) 18 u (λx hs=>⟨{ x with dU:=u },by simp [gX],⟨hs.deep,hs.word,hs.names,hs.kinds,hs.rows,rfl,hs.form⟩,rfl⟩)
 S.call k.1 k.2
theorem Rd.create (h:Rd o w p c v m n)(hm:m.len<=600)(D0:c.names=.slice none 0 0)(CH:c.kinds=.slice none 0 0):Calls Tryz.prog 31 #[.pointer (some ⟨p,0,none⟩)] w λr w'=>
 r=.returned (.tuple #[])/\∃(a a':Option Addr) (q q' k k':Nat),Rd o w' p { c with names:=.slice a q k,kinds:=.slice a' q' k' } v ((cC mS (m.name.2.take cI)).2.take eG) n/\Fq p v v w w':=by
 obtain ⟨i0,hi,jS,jD,jv⟩:=info_parts Tryz.Bc;obtain ⟨j0,hj,hy0,hy1,hy2⟩:=info_parts Tryz.RO;go_enter Tryz.func31,Tryz.ntmps31;go_wp2_with fail;refine (h.start.rd.name).mono ?_;rintro r w1 ⟨s1,j1,rfl,h1,f1⟩;have avf:=cP m;obtain ⟨_,_,_,_,_,_,d0,d1,_⟩:=h1.oR;have z0:=h1.j8.2.2.2.2 10;have z1:=h1.j8.2.2.2.2 11;have S1:=(h.start.call h1 f1).ND s1 j1;go_wp2_with fail;refine (S1.rd.take _).mono ?_;rintro r w4 ⟨_,rfl,h4,f4⟩;have SK:=take_len m.name.2 cI;have S4:St (w,v) w4 p { c with names:=.slice none 0 0,kinds:=.slice none 0 0 } v (m.name.2.take cI) n [.row (.slice none 0 0) 34 2 0,.row (.slice none 0 0) 3 1 0]:=by
  have e:{ c with names:=.slice none 0 0,kinds:=.slice none 0 0 }=c:=by cases c;cases D0;cases CH;rfl
  rw [e];exact ((S1.call h4 f4).nil 3 1).nil 34 2
 clear d0 d1 z0 z1;go_wp2_with fail;go_loopw [2] (λx wr=>∃(b:Bool) (m':Mode) (s s':Value) (q:Nat),x=.bool b/\St (w,v) wr p { c with names:=s,kinds:=s' } v m' n [.row s 34 2 q,.row s' 3 1 q]/\q+m'.len<=m.len+1/\Hid ((q=0/\b=true/\m'=m.name.2.take cI)\/(0<q/\b=m'.is kj/\∃f l,m'.len<=f/\fm mS f l m'=cC mS (m.name.2.take cI)))) (λ_ wr=>2000 - lenOf ((wr.cell? ⟨p,14,none⟩).getD undef))
 case atStart=>exact ⟨true,_,_,_,0,rfl,S4,by show 0+(m.name.2.take cI).len<=_;omega,hide (.inl ⟨rfl,rfl,rfl⟩)⟩
 case round=>
  obtain ⟨b,m',s,s',q,rfl,S,yX,HA⟩:=hrel;obtain ⟨va,vc,rfl⟩:=S.slice;obtain ⟨va',vc',rfl⟩:=S.drop.slice;have c14:=S.rd.j8.1;have M0:lenOf ((wr.cell? ⟨p,14,none⟩).getD undef)=q:=by rw [c14];rfl
  cases b
  . have HF:=hide (show fm mS 0 [] m'=([],m')/\(cC mS (m.name.2.take cI)).2=m' by
     refine ⟨rfl,?_⟩;rcases ae HA with ⟨-,hb,-⟩|⟨-,hb,f,l,-,nT⟩
     . cases hb
     . rw [<- nT,lT hb.symm])
    go_wp2_with fail;refine (S.rd.take _).mono ?_;rintro r w9 ⟨_,rfl,h9,f9⟩;go_wp2_with fail;go_end0;refine ⟨rfl,va,va',q,q,vc,vc',?_⟩;rw [(ae HF).2];exact (S.call h9 f9).fin h
  . rcases ae HA with ⟨hq,-,xV⟩|⟨hq,hb,f,l,hfu,nT⟩
    case' inl=>
     have Co:¬(0:Int)<q:=by omega
     clear hq;have Sx:=S;have hl:m'.len<=m.len:=by rw [xV];omega
     have HM:Hid (∃f l,(mS m').2.len<=f/\fm mS f l (mS m').2=cC mS (m.name.2.take cI)):=hide ⟨_,_,af _,by rw [<- xV];rfl⟩;clear xV c14;have c14:=Sx.rd.j8.1;go_wp2_with fail;generalize m'=mx at Sx hl HM
    case' inr=>
     have Co:(0:Int)<q:=by omega
     have ic:m'.is (ByteArray.mk #[44])=true:=hb.symm;obtain ⟨e3,e4,e5⟩:=S.rd.live ic;obtain ⟨f,rfl⟩:∃g,f=g+1:=⟨f - 1,by omega⟩;have o8:=hide (lS nT ic);clear hb nT;go_wp2_with fail;refine (S.rd.next e4).mono ?_;rintro r wa ⟨rfl,ha,fa⟩;have Sx:=S.call ha fa;have hl:q+m'.next.len<=m.len:=by omega
     have aoX:=NC m'.next.name.2;have aoY:=cP m'.next;have HM:Hid (∃f l,(mS m'.next).2.len<=f/\fm mS f l (mS m'.next).2=cC mS (m.name.2.take cI)):=hide ⟨f,_,by show (mF m'.next.name.2).2.len<=f;omega,ae o8⟩;clear c14 aoX aoY o8 e5;have c14:=Sx.rd.j8.1;go_wp2_with fail;generalize m'.next=mx at Sx hl HM
    all_goals
     have zS:q+mx.len<=m.len:=by omega
     clear Co;refine (Sx.rd.name).mono ?_;rintro r wb ⟨s2,j2,rfl,bL,fb⟩;have Sb:=(Sx.call bL fb).new #[.string s2,.int .i64 j2] 34;have Ip:=cP mx;clear c14;go_wp2_with fail;refine (Sb.rd.kind).mono ?_;rintro r wc ⟨k,rfl,NR,fc⟩;have Sc:=Sb.call NR fc;obtain ⟨u0,u1⟩:=jl Sc.box;have c14:=Sc.rd.j8.1;have afc:=Sc.rd.lt;have ZO:=NC mx.name.2;have Sw:=((Sc.alloc (.cells #[.string s2,.int .i64 j2] 34)).drew).jG;obtain ⟨xs,own⟩:=Sw.row;have xD:=hide own;have yU:=hide (World.news_of_block (w:=(wc.alloc (.cells #[.string s2,.int .i64 j2] 34 (0,0))).drew) (B:=wc.heap.size) (ai wc (.cells #[.string s2,.int .i64 j2] 34 (0,0))));have sU:=hide (show (wc.alloc (.cells #[.string s2,.int .i64 j2] 34 (0,0))).drew.heap.size=wc.heap.size+1 by show (wc.heap.push _).size=_;rw [dq]);have ym:=hide Sw.rd.fr.keeps.size;have H1:=hide (show ∀u∈[Value.string s2,.int .i64 j2],u.oneCell'=true by intro u hu;simp at hu;rcases hu with rfl|rfl<;>rfl);clear own;go_wp2_with fail;go_region_law (refine step_append_lies _ rfl (.tmp 34) (.tmp 36) 35 rfl w.heap.size 34 i0 _ 2 24 Tryz.underlying35 hi jS jD jv rfl (by decide) _ _ _ (by simp [Act.eval]) (ae xD) ⟨wc.heap.size,0,none⟩ 1 1 [.string s2,.int .i64 j2] (by simp [Act.eval]) rfl (ae yU) (ae H1) (by decide) (by unfold maxLen;omega) (by omega) (ae ym) (wc.heap.size+1) (ae sU) ?_;intro g gcap wd ke qF tu _;have Sd:=Sw.app ke qF (by rw [ae sU];rcases tu with h|h;exact .inl h;exact .inr (by omega));have k14:=Sd.rd.j8.1;have kf:=Sd.rd.j8.2.2.2.2 14;clear ke qF tu)
     all_goals
      have Se:=Sd.acz (.slice (some ⟨g,0,none⟩) (q+1) gcap);have k15:=Se.rd.j8.2.1;have Sf:=(Se.alloc (.cells #[.int .i64 k] 3)).jG;obtain ⟨ys,Gk⟩:=Sf.row;have ug:=hide Gk;have Uj:=ai (wd.setCell ⟨p,14,none⟩ (.slice (some ⟨g,0,none⟩) (q+1) gcap)) (.cells #[.int .i64 k] 3 (0,0));have hsd:(wd.setCell ⟨p,14,none⟩ (.slice (some ⟨g,0,none⟩) (q+1) gcap)).heap.size=wd.heap.size:=by simp [World.setCell]
      rw [hsd] at Uj;have HNK:=hide (World.news_of_block Uj);have Ky:=Sd.rd.fr.keeps.size;clear Gk Uj;go_wp2_with (at_builtin;refine cA _ rfl _ _ 36 rfl w.heap.size 3 j0 _ 1 8 Tryz.underlying36 hj hy0 hy1 hy2 rfl (by decide) _ _ _ rfl (ae ug) ⟨wd.heap.size,0,none⟩ 1 1 [.int .i64 k] rfl rfl (ae HNK) (λu hu=>by simp at hu;subst hu;rfl) (by decide) (by unfold maxLen;omega) (by omega) (by simp [World.setCell] at Ky ⊢;omega) ?_);intro g2 uy we br bE bW;have Sg:=Sf.app br bE (by simpa [World.setCell] using bW);have q15:=Sg.rd.j8.2.1;have avk:=Sg.rd.j8.2.2.2.2 15;have Sh:=Sg.aju (.slice (some ⟨g2,0,none⟩) (q+1) uy);have Uk:lenOf (((we.setCell ⟨p,15,none⟩ (.slice (some ⟨g2,0,none⟩) (q+1) uy)).cell? ⟨p,14,none⟩).getD undef)=q+1:=by rw [Sh.rd.j8.1];rfl
      clear br bE bW k15 k14 kf;go_wp2_with (go_at_call 30;refine (Sh.rd.is _).mono ?_;rintro r' w' ⟨rfl,rfl⟩);go_roundw
      case rel=>
       obtain ⟨f',l',UC,zS⟩:=ae HM;exact ⟨_,_,_,_,q+1,rfl,Sh.jG.drop,by omega,hide (.inr ⟨by omega,rfl,f',l',UC,zS⟩)⟩
      case measure=>rw [Uk,M0];omega
end
end Go.Proofs.YteniahoehoncjaaGreatDoor
