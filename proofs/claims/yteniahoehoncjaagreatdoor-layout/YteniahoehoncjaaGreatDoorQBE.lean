import Derived.Test.YteniahoehoncjaaGreatDoorQAV
import Derived.Test.YteniahoehoncjaaGreatDoorQAW
import Derived.Test.YteniahoehoncjaaGreatDoorQAZ
import Derived.Test.YteniahoehoncjaaGreatDoorQBD
import Derived.Test.YteniahoehoncjaaGreatDoorQAT
set_option maxHeartbeats 99999999
set_option maxRecDepth 100000
namespace Go.Proofs.YteniahoehoncjaaGreatDoor
open Go.RowKit
section
open Go.Maps
structure fF where
 q:Nat
 cv:Value
 sv:Value
 vs:List Value
 cols:List cU
 Cs:List (List (List aL))
structure ng where
 Gw:Value
 wv:Value
 sh:List Nat
 e:Ex
 a:World
 lo:Nat
abbrev Tn:=List cU×List (List aL)
abbrev GrP:=List Nat×Ex
structure ou where
 tabs:List (Lit×Tn)
 YU:List (Lit×GrP)
def fF.told (t:fF):Tn:=(t.cols,t.Cs.flatten)
def ng.told (g:ng):GrP:=(g.sh,g.e)
def fF.val (t:fF):Value:=.pointer (some ⟨t.q,0,none⟩)
def ng.val (g:ng):Value:=.agg #[g.Gw,g.wv]
def WL (cols:List cU)(g:GrP):Prop:=0<g.1.length/\g.1.length<=5/\(∀s∈g.1,s<cols.length)/\vO g.2/\cV cols g.2=.inl 2
structure AK (o:rO)(w:World)(X:Nat->Prop)(t:fF):Prop where
 dV:w.heap[t.q]?=some (.cells #[t.cv,t.sv,.int .i64 t.Cs.flatten.length] 194 (0,0))
 own:w.ownsRow 0 196 1 t.sv t.Cs.length t.vs
 off:t.sv.ownBlock≠some t.q
 Hb:gq w t.cv t.cols
 qE:sJ w t.cols t.vs t.Cs
 K9:gQ X t.cv
 IB:∀u∈t.vs,gQ X u
 chk:lF o.seg t.Cs
 fit:jh t.cols t.Cs.flatten
 few:t.Cs.flatten.length<=64
 BU:pS t.cols
 c0:0<t.cols.length
structure Tp (w:World)(X:Nat->Prop)(cols:List cU)(g:ng):Prop where
 shr:kF w g.Gw g.sh
 shn:gQ X g.Gw
 work:ef g.a g.lo g.wv (nz cols) (λrow=>gg cols row g.e)
 kept:jy g.lo g.a.heap.size g.a w
 away:∀b,g.lo<=b->b<g.a.heap.size->¬X b
 fit:WL cols g.told
def vP (mt mg:Nat)(tl:List (Lit×fF))(b:Nat):Prop:=b=mt\/b=mg\/∃x∈tl,jP x.2.q x.2.sv b
structure cx (o:rO)(w:World)(p mt mg:Nat)(X:Nat->Prop)(tl:List (Lit×fF))(gl:List (Lit×ng)):Prop where
 dV:w.heap[p]?=some (.cells #[.int .i64 o.seg,.int .i64 o.pk,.int .i64 o.wd,.bool o.prune,.bool o.push,.int .i64 o.bud,.map (some mt),.map (some mg)] 69 (0,0))
 yz:j7 w 9 mt (eZ fF.val tl)
 yA:j7 w 189 mg (eZ ng.val gl)
 ne:mt≠mg
 tab:∀x∈tl,AK o w X x.2
 apart:tl.Pairwise (λx y=>∀b,jP x.2.q x.2.sv b->¬jP y.2.q y.2.sv b)
 gr:∀x∈gl,∃u t:ByteArray,x.1=gk u t/\u.size<=8/\t.size<=8/\∃tc,(tk t,tc)∈tl/\Tp w X tc.cols x.2
 names:∀x∈tl,∃t:ByteArray,x.1=tk t/\t.size<=8
 sub:∀b,vP mt mg tl b->X b
 nO:∀b,X b->b<w.heap.size
 pX:¬X p
 few:tl.length<=4/\gl.length<=8
section
variable {o:rO} {w w':World} {p mt mg:Nat} {X X':Nat->Prop} {tl:List (Lit×fF)} {gl:List (Lit×ng)} {t:fF} {g:ng} {cols:List cU}
theorem gQ.mono {M M':Nat->Prop}{v:Value}(h:gQ M v)(hM:∀b,M' b->M b):gQ M' v:=λa n c hv hm=>h a n c hv (hM _ hm)
theorem bF.away {size n:Nat}{v:Value}{xs:List Value}(h:bF w size v n xs)(hn:gQ X v)(h0:0<n)(hX:∀b,X' b->X b\/w.heap.size<=b):gQ X' v:=λa m c hv hm=>by
 rcases hX _ hm with e|e
 . exact hn a m c hv e
 . have:=bF.inside h h0 a m c hv;omega
structure CL (w w':World)(X X':Nat->Prop):Prop where
 size:w.heap.size<=w'.heap.size
 block:∀b,b<w.heap.size->¬X b->w'.heap[b]?=w.heap[b]?
 grows:∀b,X' b->X b\/w.heap.size<=b
theorem AK.stays (h:AK o w X t)(hs:CL w w' X X')(hb:w'.heap[t.q]?=w.heap[t.q]?)(hg:∀k,t.sv.ownBlock=some k->w'.heap[k]?=w.heap[k]?):AK o w' X' t where
 dV:=hb.trans h.dV
 own:=wI h.own hg
 off:=h.off
 Hb:=bF.moves h.Hb h.K9 hs.size hs.block
 qE:=h.qE.moves h.IB hs.size hs.block
 K9:=bF.away h.Hb h.K9 h.c0 hs.grows
 IB:=λu hu=>by
  obtain ⟨i,hi⟩:=cm hu;have hl:=(ak.mp hi).1;obtain ⟨ss,h1,h2⟩:=h.qE.2 i u (t.Cs[i]'(by rw [<- h.qE.1];exact hl)) hi (ah _);have hp:0<ss.length:=by have h3:=h2.1;have:=h.c0;rw [aW] at h3;omega
  exact bF.away h1 (h.IB u hu) hp hs.grows
 chk:=h.chk
 fit:=h.fit
 few:=h.few
 BU:=h.BU
 c0:=h.c0
theorem Tp.stays (h:Tp w X cols g)(hs:CL w w' X X'):Tp w' X' cols g where
 shr:=bF.moves h.shr h.shn hs.size hs.block
 shn:=bF.away h.shr h.shn h.fit.1 hs.grows
 work:=h.work
 kept:=⟨aw h.kept.1 hs.size,λk h1 h2=>(hs.block k (aF h2 h.kept.1) (h.away k h1 h2)).trans (h.kept.2 k h1 h2)⟩
 away:=λb h1 h2 hX=>by
  rcases hs.grows b hX with e|e
  . exact h.away b h1 h2 e
  . have:=h.kept.1;omega
 fit:=h.fit
theorem jP.inside (h:AK o w X t){b:Nat}(hb:jP t.q t.sv b):b<w.heap.size:=by
 rcases hb with rfl|e
 . exact az h.dV
 . exact (h.own.lt b e).2
theorem cx.stays (h:cx o w p mt mg X tl gl)(hs:CL w w' X X')(hm:∀b,vP mt mg tl b->w'.heap[b]?=w.heap[b]?)(hX:∀b,X b->X' b)(mC:∀b,X' b->b<w'.heap.size):cx o w' p mt mg X' tl gl where
 dV:=(hs.block p (az h.dV) h.pX).trans h.dV
 yz:=h.yz.kept (hm mt (.inl rfl))
 yA:=h.yA.kept (hm mg (.inr (.inl rfl)))
 ne:=h.ne
 tab:=λx hx=>(h.tab x hx).stays hs (hm _ (.inr (.inr ⟨x,hx,.inl rfl⟩))) (λk hk=>hm k (.inr (.inr ⟨x,hx,.inr hk⟩)))
 apart:=h.apart
 gr:=λx hx=>by
  obtain ⟨u,t,h1,h2,h3,tc,h4,h5⟩:=h.gr x hx;exact ⟨u,t,h1,h2,h3,tc,h4,h5.stays hs⟩
 names:=h.names
 sub:=λb hb=>hX b (h.sub b hb)
 nO:=mC
 pX:=λhx=>by
  rcases hs.grows p hx with e|e
  . exact h.pX e
  . have:=az h.dV;omega
 few:=h.few
theorem cx.below (h:cx o w p mt mg X tl gl)(hb:Below w.heap.size w w'):cx o w' p mt mg X tl gl:=
 h.stays ⟨hb.size,λb h1 _=>hb.block b h1,λ_ hb=>.inl hb⟩ (λb hm=>hb.block b (h.nO b (h.sub b hm))) (λ_=>id) (λb hx=>aF (h.nO b hx) hb.size)
end
def cw (tl:List (Lit×fF))(gl:List (Lit×ng)):ou:=⟨eZ fF.told tl,eZ ng.told gl⟩
def gZ:ByteArray:=⟨#[97,100,109,105,110]⟩
def rD (sh:List Nat)(F:List aL->dQ)(t:Tn):Tn:=(sh.map λs=>t.1.getD s default,fR F sh t.2)
def wS (st:ou)(user table:ByteArray):Option Tn:=
 match eA st.tabs (tk table) with
 |none=>none
 |some t=>if kh user gZ then some (rD (List.range t.1.length) (λ_=>.inl (oA 1)) t) else (eA st.YU (gk user table)).map λg=>rD g.1 (λrow=>gg t.1 row g.2) t
abbrev Tq:=List UInt8×Nat×Nat
def kY (bud:Nat)(st:ou)(user:ByteArray)(pl:Nat)(t:Nm)(ss:List gV):Tq:=
 match wS st user t.1 with
 |none=>([],5,t.2)
 |some v=>match ss with
   |s::_=>([],2,s.pl)
   |[]=>if bud<v.2.length then ([],10,pl) else (vx v.1 v.2,0,0)
def wT:List (Nm×Nat)->List cU->Nat ⊕ List cU
 |[],l=>.inr l
 |c::r,l=>if 0<=yN l c.1.1 then .inl c.1.2 else wT r (l++[(c.1.1,c.2)])
def oN (st:ou)(t:Nm)(cols:List (Nm×Nat)):(Nat×Nat)×ou:=
 if (eA st.tabs (tk t.1)).isSome then ((6,t.2),st)
 else match wT cols [] with
  |.inl b=>((6,b),st)
  |.inr l=>if 4<=st.tabs.length\/5<l.length then ((8,0),st) else ((0,0),⟨oK st.tabs (tk t.1) (l,[]),st.YU⟩)
noncomputable def CM (st:ou)(t:Nm):(Nat×Nat)×ou:=
 if (eA st.tabs (tk t.1)).isSome then ((0,0),⟨oB st.tabs (tk t.1),st.YU.filter λx=>!@decide (∃u:ByteArray,u.size<=8/\x.1=gk u t.1) (Classical.propDecidable _)⟩) else ((5,t.2),st)
def r8 (st:ou)(u t:Nm):(Nat×Nat)×ou:=
 if (eA st.YU (gk u.1 t.1)).isSome then ((0,0),⟨st.tabs,oB st.YU (gk u.1 t.1)⟩) else ((5,u.2),st)
def tL:List qD->List cU->Option Nat
 |v::r,c::l=>if !v.null&&!decide (v.kind=(c.2:Int)) then some v.pl else tL r l
 |_,_=>none
def ft (r:oz)(cols:List cU):Option Nat:=if r.vals.length≠cols.length then some r.pl else tL r.vals cols
def FE (r:oz):List aL:=r.vals.map λv=>⟨v.null,v.n,v.s⟩
def uR {B:Type}(T:List (Lit×B))(k:Lit)(b:B):List (Lit×B):=T.map λp=>if p.1.sameKey k then (p.1,b) else p
def yB (st:ou)(t:Nm)(rows:List oz):(Nat×Nat)×ou:=
 match eA st.tabs (tk t.1) with
 |none=>((5,t.2),st)
 |some tb=>match rows.findSome? (λr=>ft r tb.1) with
   |some b=>((7,b),st)
   |none=>if 64<tb.2.length+rows.length then ((8,0),st) else ((0,0),⟨uR st.tabs (tk t.1) (tb.1,tb.2++rows.map FE),st.YU⟩)
def eJ (cols:List cU):List Nm->List Nat->(Nat×Nat) ⊕ List Nat
 |[],l=>.inr (l.mergeSort (λa b=>decide (a<=b)))
 |n::r,l=>if yN cols n.1<0 then .inl (5,n.2) else if l.contains (yN cols n.1).toNat then .inl (6,n.2) else eJ cols r (l++[(yN cols n.1).toNat])
def sO (st:ou)(u t:Nm)(cs:List Nm)(e:Ex)(pl:Nat):(Nat×Nat)×ou:=
 match eA st.tabs (tk t.1) with
 |none=>((5,t.2),st)
 |some tb=>match eJ tb.1 cs [] with
   |.inl f=>(f,st)
   |.inr sh=>match cV tb.1 e with
     |.inr f=>(f,st)
     |.inl k=>if k≠2 then ((7,pl),st) else if (eA st.YU (gk u.1 t.1)).isNone/\8<=st.YU.length then ((8,0),st) else ((0,0),⟨st.tabs,oK st.YU (gk u.1 t.1) (sh,e)⟩)
noncomputable def km (st:ou):xZ->(Nat×Nat)×ou
 |.create t cols=>oN st t cols
 |.drop t=>CM st t
 |.load t rows=>yB st t rows
 |.wu u t cs e pl=>sO st u t cs e pl
 |.uw u t=>r8 st u t
 |.query _=>((0,0),st)
noncomputable def qA (bud:Nat)(st:ou)(user text:ByteArray):Tq×ou:=
 if 300<text.size then (([],1,0),st)
 else match gP text with
  |.inr q=>(([],q.1,q.2),st)
  |.inl (.query ss)=>(match ss with|s::r=>kY bud st user s.pl s.table r|[]=>([],0,0),st)
  |.inl c=>if kh user gZ then (([],(km st c).1.1,(km st c).1.2),(km st c).2) else (([],4,0),st)
theorem dG {w1:World}{r:Nat}{a b c d e f g h:Value}{t:TypeId}(hh:w1.heap[r]?=some (.cells #[a,b,c,d,e,f,g,h] t (0,0))):w1.cell? ⟨r,0,none⟩=some a/\w1.cell? ⟨r,1,none⟩=some b/\w1.cell? ⟨r,2,none⟩=some c/\w1.cell? ⟨r,3,none⟩=some d/\w1.cell? ⟨r,4,none⟩=some e/\w1.cell? ⟨r,5,none⟩=some f/\w1.cell? ⟨r,6,none⟩=some g/\w1.cell? ⟨r,7,none⟩=some h:=by simp [World.cell?,hh]
theorem cx.find {o:rO}{w:World}{p mt mg:Nat}{X:Nat->Prop}{tl:List (Lit×fF)}{gl:List (Lit×ng)}(h:cx o w p mt mg X tl gl){s:ByteArray}(hs:s.size<=maxLen):(Instr.lookup 66 (.map (some mt)) (.string s) false).run Tryz.prog w=.ok (match eA tl (tk s) with|some t=>t.val|none=>.pointer none) w:=by
 rw [h.yz.look Tryz.Kh Tryz.underlying66 (O4 hs) (O5 w),fY]
 cases eA tl (tk s)<;>rfl
theorem cx.Jb {o:rO}{w:World}{p mt mg:Nat}{X:Nat->Prop}{tl:List (Lit×fF)}{gl:List (Lit×ng)}(h:cx o w p mt mg X tl gl){u s:ByteArray}(hu:u.size<=maxLen)(hs:s.size<=maxLen):(Instr.lookup 67 (.map (some mg)) (.agg #[.string u,.string s]) true).run Tryz.prog w=.ok (.tuple #[match eA gl (gk u s) with|some g=>g.val|none=>.agg #[.slice none 0 0,.nilFunc],.bool (eA gl (gk u s)).isSome]) w:=by
 rw [h.yA.ahN Tryz.qG Tryz.underlying67 (E6 hu hs) (Kj w),fY]
 cases eA gl (gk u s)<;>rfl
def aes (w':World)(tl:List (Lit×fF))(st:ou)(user table:ByteArray)(r:Ending):Prop:=
 ∃(tv Gw wv:Value) (b:Bool),r=.returned (.tuple #[.agg #[tv,Gw,wv],.bool b])/\((∃ta,tv=.pointer ta)/\(∃a n c,Gw=.slice a n c)/\(wv=.nilFunc\/∃k c,wv=.func (.func k) #[] c))/\((b=false/\wS st user table=none)\/(b=true/\∃(tc:fF) (sh:List Nat) (F:List aL->dQ) (a:World) (lo:Nat),eA tl (tk table)=some tc/\tv=tc.val/\kF w' Gw sh/\ef a lo wv (nz tc.cols) F/\jy lo a.heap.size a w'/\(∀row,nz tc.cols row->∀c,F row=.inl c->tg c)/\0<sh.length/\sh.length<=5/\(∀s∈sh,s<tc.cols.length)/\wS st user table=some (rD sh F tc.told)))
theorem lU (a:Addr)(m:Go.Mode)(w:World):(store a .nilFunc m).run Tryz.prog w=stored Tryz.prog w a .nilFunc m:=run_store Tryz.prog w a _ m rfl
theorem WM {w:World}{v:Value}{l:List Nat}{b:Nat}(h:kF w v l)(h0:0<l.length)(hb:∀o n,w.cell? ⟨b,o,none⟩≠some (.int .i64 n)):gQ (λk=>k=b) v:=λa n c hv e=>by
 obtain ⟨g,o,cap,he,hc⟩:=kF.get h (ah h0);rw [hv] at he
 cases he
 simp at e;subst e;exact hb _ _ hc
theorem Tr {w:World}{b:Nat}{x y z:Value}{t:TypeId}(h:w.heap[b]?=some (.cells #[x,y,z] t (0,0)))(hx:∀n,x≠.int .i64 n)(hy:∀n,y≠.int .i64 n)(hz:∀n,z≠.int .i64 n):∀o n,w.cell? ⟨b,o,none⟩≠some (.int .i64 n):=λo n e=>by
 match o,e with
 |0,e=>simp [World.cell?,h] at e;exact hx n e
 |1,e=>simp [World.cell?,h] at e;exact hy n e
 |2,e=>simp [World.cell?,h] at e;exact hz n e
 |o+3,e=>simp [World.cell?,h] at e
theorem tM {B:Type}{T:List (Lit×B)}(h:T.Pairwise (λp q=>p.1≠q.1)){k:Lit}{a b:B}(ha:(k,a)∈T)(hb:(k,b)∈T):a=b:=by
 induction T with
 |nil=>simp at ha
 |cons x r ih=>
   obtain ⟨h1,h2⟩:=dk.mp h;rw [bY] at ha hb;rcases ha with ha|ha<;>rcases hb with hb|hb
   . rw [<- ha] at hb;exact (Prod.mk.inj hb).2.symm
   . exact absurd (by rw [<- ha]) (h1 _ hb)
   . exact absurd (by rw [<- hb]) (h1 _ ha)
   . exact ih h2 ha hb
theorem cx.keys {o:rO}{w:World}{p mt mg:Nat}{X:Nat->Prop}{tl:List (Lit×fF)}{gl:List (Lit×ng)}(h:cx o w p mt mg X tl gl):tl.Pairwise (λp q=>p.1≠q.1):=by
 have:=h.yz.apart Tryz.Kh;unfold eZ at this;exact (sA.mp this).imp id
theorem Py {o:rO}{w:World}{p mt mg:Nat}{X:Nat->Prop}{tl:List (Lit×fF)}{gl:List (Lit×ng)}(h:cx o w p mt mg X tl gl){user table:ByteArray}(hu:user.size<=maxLen)(ht:table.size<=maxLen) :
 Calls Tryz.prog 62 #[.pointer (some ⟨p,0,none⟩),.string user,.string table] w λr w'=>aes w' tl (cw tl gl) user table r/\Below w.heap.size w w':=by
 have kX:Below w.heap.size w (w.alloc (.cells #[.pointer none,.slice none 0 0,.nilFunc] 141)):=(ag _ _).alloc (af _) _;have h1:=h.below kX;have hL:=h1.find ht;obtain ⟨s0,s1,s2,s3,s4,s5,s6,s7⟩:=dG h.dV;have hp:=az h.dV;have GU:=hide (ai w (.cells #[.pointer none,.slice none 0 0,.nilFunc] 141));have HH:=hide h;have H1:=hide h1;have wE:=hide kX;clear h kX
 cases hl:eA tl (tk table) with
 |none=>
   have HV:Hid (wS (cw tl gl) user table=none):=hide (by unfold wS cw;simp only;rw [fY,hl];rfl);simp only [hl] at hL;clear h1 hl;have rsn:=lU;go_enter Tryz.func62,Tryz.ntmps62;go_wp2_with fail;obtain ⟨q0,q1,q2⟩:=aR (ae GU);refine ay (v:=.tuple #[.agg #[.pointer none,.slice none 0 0,.nilFunc],.bool false]) (by simp [results,Tryz.results62,go_sem];try rfl) rfl ?_;exact ⟨⟨_,_,_,_,rfl,⟨⟨_,rfl⟩,⟨_,_,_,rfl⟩,.inl rfl⟩,.inl ⟨rfl,ae HV⟩⟩,ae wE⟩
 |some tc=>
   simp only [hl] at hL;unfold fF.val at hL;have oy:=kA hl;have BV:=h1.tab _ oy;have HTB:=hide BV;have HVW:Hid (wS (cw tl gl) user table=if kh user gZ then some (rD (List.range tc.cols.length) (λ_=>.inl (oA 1)) tc.told) else (eA (eZ ng.told gl) (gk user table)).map λg=>rD g.1 (λrow=>gg tc.cols row g.2) tc.told):=hide (by unfold wS cw;simp only;rw [fY,hl];rfl);have HL:=hide hl;by_cases ha:user=gZ
   . have HEV:=hide (EP BV.dV BV.Hb BV.BU.1 (nz tc.cols))
     rw [ha] at HVW;subst ha;unfold gZ;clear hl oy BV h1;go_enter Tryz.func62,Tryz.ntmps62;go_wp2_with fail;refine (ae HEV).mono ?_;rintro e w1 ⟨v,wv,lo,rfl,hv,hw,pb,bL⟩;obtain ⟨va,cJ,rfl⟩:=bF.slice hv;rw [eS] at hv;have hw':=hw;obtain ⟨k2,iy,rfl,-⟩:=hw';have sV:=(bL.block _ (by simp)).trans (ae GU);obtain ⟨q0,q1,q2⟩:=aR sV;have z0:=lz sV 0;have z1:=lz sV 1;have z2:=lz sV 2;have jD:w.heap.size<w1.heap.size:=az sV;have rsf:=k9 k2 iy;have rsn:=lU;have HW9:Hid (∀W9,W9=((w1.setCell ⟨w.heap.size,0,none⟩ (.pointer (some ⟨tc.q,0,none⟩))).setCell ⟨w.heap.size,1,none⟩ (.slice va tc.cols.length cJ)).setCell ⟨w.heap.size,2,none⟩ (.func (.func k2) #[] iy)->(W9.cell? ⟨w.heap.size,0,none⟩=some (.pointer (some ⟨tc.q,0,none⟩))/\W9.cell? ⟨w.heap.size,1,none⟩=some (.slice va tc.cols.length cJ)/\W9.cell? ⟨w.heap.size,2,none⟩=some (.func (.func k2) #[] iy))/\kF W9 (.slice va tc.cols.length cJ) (List.range tc.cols.length)/\ef W9 lo (.func (.func k2) #[] iy) (nz tc.cols) (λ_=>.inl (oA 1))/\Below w.heap.size w W9):=hide (by
      intro W9 e9;have kd:(w.alloc (.cells #[.pointer none,.slice none 0 0,.nilFunc] 141)).heap.size=w.heap.size+1:=by simp
      have ZK:=WM hv (by rw [eS];exact (ae HTB).c0) (Tr sV (by simp) (by simp) (by simp));refine ⟨aR (t:=141) (by rw [e9];exact BH sV),bF.moves hv ZK (by rw [e9];simp [World.setCell]) (λb _ hb=>by rw [e9];exact uE hb),by rw [e9];exact ((hw.set (by omega)).set (by omega)).set (by omega),?_⟩;rw [e9];exact ((((ae wE).trans (bL.mono (by omega))).setCell (af _) _).setCell (af _) _).setCell (af _) _)
     clear hv hw bL sV;go_wp2_with fail;obtain ⟨W9,e9⟩:∃W9,W9=((w1.setCell ⟨w.heap.size,0,none⟩ (.pointer (some ⟨tc.q,0,none⟩))).setCell ⟨w.heap.size,1,none⟩ (.slice va tc.cols.length cJ)).setCell ⟨w.heap.size,2,none⟩ (.func (.func k2) #[] iy):=⟨_,rfl⟩;rw [<- e9];obtain ⟨⟨y0,y1,y2⟩,k3,k4,k5⟩:=ae HW9 W9 e9;refine ay (v:=.tuple #[.agg #[.pointer (some ⟨tc.q,0,none⟩),.slice va tc.cols.length cJ,.func (.func k2) #[] iy],.bool true]) (by simp [results,Tryz.results62,go_sem,y0,y1,y2];try rfl) rfl ?_;have Ev:=(ae HTB).c0;have UK:=(ae HTB).BU.1;refine ⟨⟨_,_,_,_,rfl,⟨⟨_,rfl⟩,⟨_,_,_,rfl⟩,.inr ⟨_,_,rfl⟩⟩,.inr ⟨rfl,tc,List.range tc.cols.length,_,W9,lo,ae HL,rfl,k3,k4,⟨af _,λ_ _ _=>rfl⟩,λrow _ c hc=>by cases hc;exact .inr (.inr rfl),by rw [eS];exact Ev,by rw [eS];exact UK,λs hs=>o5.mp hs,(ae HVW).trans (aH (by decide))⟩⟩,k5⟩
   . have iq:(user.toList==[97,100,109,105,110])=false:=by
      rw [dx]
      cases he:kh user (bs [97,100,109,105,110]) with
      |false=>rfl
      |true=>exact absurd (iQ.mp he) ha
     have aac:kh user gZ=false:=by
      cases he:kh user gZ with
      |false=>rfl
      |true=>exact absurd (iQ.mp he) ha
     rw [aac,aA (by simp)] at HVW;have bO:=(ae wE).alloc (w:=w.alloc (.cells #[.pointer none,.slice none 0 0,.nilFunc] 141)) (by simp) (.cells #[.slice none 0 0,.nilFunc] 139);have N4:=h1.Jb hu ht;have N5:=((ae HH).below bO).Jb hu ht;have jg:=hide bO;have rsn:=lU
     cases hg:eA gl (gk user table) with
     |none=>
       rw [fY,hg] at HVW;simp only [hg] at N4 N5;clear hl oy BV h1 bO hg;go_enter Tryz.func62,Tryz.ntmps62;go_wp2_with fail;refine ay (v:=.tuple #[.agg #[.pointer (some ⟨tc.q,0,none⟩),.slice none 0 0,.nilFunc],.bool false]) (by simp [results,Tryz.results62,go_sem];try rfl) rfl ?_;exact ⟨⟨_,_,_,_,rfl,⟨⟨_,rfl⟩,⟨_,_,_,rfl⟩,.inl rfl⟩,.inl ⟨rfl,ae HVW⟩⟩,((ag _ _).alloc (af _) _).alloc (by simp) _⟩
     |some g=>
       rw [fY,hg] at HVW;simp only [hg] at N4 N5;unfold ng.val at N4 N5;obtain ⟨u',t',hk,hu8,DY,tc',xV,yT⟩:=(ae HH).gr _ (kA hg);have Rz:(8:Nat)<=maxLen:=by unfold maxLen;omega
       obtain ⟨-,rfl⟩:=Ki hu ht (aw hu8 Rz) (aw DY Rz) hk;obtain rfl:=tM (ae HH).keys oy xV;have Q8:=yT.shr;obtain ⟨sa,mb,Og⟩:=bF.slice Q8;have LH:=yT.work;obtain ⟨k2,iy,Ts,-⟩:=LH;rw [Og,Ts] at N4 N5;have HGO:=hide yT;have OZ:=hide Og;have HWE:=hide Ts;have rsf:=k9 k2 iy;clear hl oy BV h1 bO hg Q8 yT hk xV Og Ts;go_enter Tryz.func62,Tryz.ntmps62;go_wp2_with fail;refine ay (v:=.tuple #[.agg #[.pointer (some ⟨tc.q,0,none⟩),.slice sa g.sh.length mb,.func (.func k2) #[] iy],.bool true]) (by simp [results,Tryz.results62,go_sem];try rfl) rfl ?_;have hB:∀o1 o2,Below w.heap.size w ((w.alloc o1).alloc o2):=λ_ _=>((ag _ _).alloc (af _) _).alloc (by simp) _;have yT:=ae HGO;have hrk:=yT.shr;rw [ae OZ] at hrk;have N6:=yT.work;rw [ae HWE] at N6;exact ⟨⟨_,_,_,_,rfl,⟨⟨_,rfl⟩,⟨_,_,_,rfl⟩,.inr ⟨_,_,rfl⟩⟩,.inr ⟨rfl,tc,g.sh,_,g.a,g.lo,ae HL,rfl,bF.below hrk (hB _ _) (af _),N6,yT.kept.below (hB _ _),λrow hr c hc=>tK hr g.e yT.fit.2.2.2.1 yT.fit.2.2.2.2 hc,yT.fit.1,yT.fit.2.1,yT.fit.2.2.1,ae HVW⟩⟩,hB _ _⟩
theorem FG {cols:List cU}(h:pS cols){sh:List Nat}(h5:sh.length<=5)(hs:∀s∈sh,s<cols.length):pS (sh.map λs=>cols.getD s default):=by
 refine ⟨by rw [aW];exact h5,λc hc=>?_⟩;obtain ⟨s,hm,rfl⟩:=dv.mp hc;have hl:=hs s hm;have e:cols.getD s default=cols[s]:=by simp [List.getD,List.getElem?_eq_getElem hl]
 rw [e];exact h.2 _ (fG hl)
theorem FH {cols:List cU}{rows:List (List aL)}(h:jh cols rows){sh:List Nat}(hs:∀s∈sh,s<cols.length)(F:List aL->dQ):jh (sh.map λs=>cols.getD s default) (fR F sh rows):=by
 intro r hr;unfold fR at hr;obtain ⟨row,hm,rfl⟩:=dv.mp hr;have hf:=h row (gp.mp hm).1;refine ⟨by rw [aW,aW],λj c k h1 h2=>?_⟩;rw [a7] at h1 h2
 cases hj:sh[j]? with
 |none=>rw [hj] at h1;cases h1
 |some s=>
   rw [hj] at h1 h2
   cases h1
   cases h2
   have hl:=hs s (aG hj);have Kc:s<row.length:=by rw [hf.1];exact hl
   exact hf.2 s _ _ (by simp [List.getD,List.getElem?_eq_getElem Kc]) (by simp [List.getD,List.getElem?_eq_getElem hl])
theorem aex {cols:List cU}{row:List aL}(h:Ka cols row):nz cols row:=by
 refine ⟨h.1,λi c k h1 h2 hk=>?_⟩;have hf:=(S.vZ (c:=ux c) (h.2 i c k h1 h2).1 (h.2 i c k h1 h2).2).2;rw [hk] at hf;obtain ⟨cn,n,s⟩:=c
 cases cn
 . simp [ux] at hf
   obtain ⟨rfl,h4⟩:=hf;rcases h4 with rfl|rfl
   . exact .inr (.inl rfl)
   . exact .inr (.inr rfl)
 . simp [ux] at hf
   obtain ⟨rfl,rfl⟩:=hf;exact .inl rfl
theorem aau {v:qD}{k:Nat}(h:KE v)(hk:v.null=true\/v.kind=(k:Int)):VH k ⟨v.null,v.n,v.s⟩:=by
 obtain ⟨vp,vk,vn,n,s⟩:=v;rcases h with ⟨h1,h2,h3⟩|⟨h1,h2⟩
 . simp only at h1 h2 h3
   subst h1 h2 h3;exact ⟨by unfold S.bZ;simp,by unfold S.okB ux;simp⟩
 . simp only at h1 h2 hk
   subst h1;have hk:vk=(k:Int):=by simpa using hk
   subst hk;rcases h2 with ⟨h3,h4,h5⟩|⟨h3,h4,h5,h6⟩|⟨h3,h4,h5⟩
   . subst h5
     exact ⟨h4,by unfold S.okB ux;simp [h3]⟩
   . subst h4
     refine ⟨by unfold S.bZ;simp,?_⟩;have kT:s.data.toList.all S.oh=true:=gH.mpr (λb hb=>by
      have:=h6 b hb;unfold eE at this;unfold S.oh;simp at this ⊢;omega)
     have hs:S.yk s=true:=by unfold S.yk;rw [kT];simp [h5]
     show (if false=true then _ else if (k:Int)=0 then _ else if (k:Int)=1 then decide ((0:Int)=0)&&S.yk s else _)=true;rw [aA (by simp),aA (by omega),aH h3,hs];rfl
   . subst h5
     refine ⟨by rcases h4 with e|e<;>(rw [e];unfold S.bZ;simp),?_⟩;unfold S.okB ux;rcases h4 with e|e<;>simp [h3,e]
def jR (o:rO)(w w':World)(p mt mg:Nat)(X:Nat->Prop)(tl:List (Lit×fF))(res:(Nat×Nat)×ou)(r:Ending):Prop:=
 r=.returned (.agg #[.int .i64 res.1.1,.int .i64 res.1.2])/\∃MS ye,cw MS ye=res.2/\cx o w' p mt mg (λb=>X b\/vP mt mg MS b) MS ye/\aQ (λb=>b<w.heap.size/\¬vP mt mg tl b) w w'/\∀b,vP mt mg MS b->vP mt mg tl b\/w.heap.size<=b
section
variable {o:rO} {w w':World} {p mt mg:Nat} {X:Nat->Prop} {tl:List (Lit×fF)} {gl:List (Lit×ng)}
theorem MT {M:Nat->Prop}(hb:Below w.heap.size w w'):aQ (λb=>b<w.heap.size/\¬M b) w w':=⟨hb.os,hb.tape,hb.output,hb.size,λb h=>hb.block b h.1⟩
theorem cx.same (h:cx o w p mt mg X tl gl)(hb:Below w.heap.size w w')(f:Nat×Nat){r:Ending}(hr:r=.returned (.agg #[.int .i64 f.1,.int .i64 f.2])):jR o w w' p mt mg X tl (f,cw tl gl) r:=by
 refine ⟨hr,tl,gl,rfl,h.stays ⟨hb.size,λb h1 _=>hb.block b h1,λb hx=>?_⟩ (λb hm=>hb.block b (h.nO b (h.sub b hm))) (λb hx=>.inl hx) (λb hx=>?_),MT hb,λb hm=>.inl hm⟩
 . rcases hx with hx|hx
   . exact .inl hx
   . exact .inl (h.sub b hx)
 . rcases hx with hx|hx
   . exact aF (h.nO b hx) hb.size
   . exact aF (h.nO b (h.sub b hx)) hb.size
end
theorem FI (s:ByteArray):WideAt.IsKeyLit (tk s):=trivial
theorem aey (u s:ByteArray):WideAt.IsKeyLit (gk u s):=trivial
section
variable {B:Type} {T:List (Lit×B)} {k:Lit}
theorem Tz (h:eA T k=none):oB T k=T:=by
 unfold eA at h;have h1:T.find? (λp=>p.1.sameKey k)=none:=by
  cases h2:T.find? (λp=>p.1.sameKey k) with
  |none=>rfl
  |some x=>rw [h2] at h;cases h
 unfold oB;rw [List.filter_eq_self];intro x hx;have:=List.find?_eq_none.mp h1 x hx;simp at this;simp [this]
theorem aav {x:Lit×B}(h:x∈T)(hk:x.1≠k):x∈oB T k:=by
 unfold oB;rw [gp];refine ⟨h,?_⟩
 cases hs:x.1.sameKey k with
 |false=>rfl
 |true=>exact absurd (fV hs) hk
theorem aaw {x:Lit×B}{b:B}(h:x∈oB T k):x∈oK T k b:=Al.mpr (.inr h)
theorem RB {b:B}:(oK T k b).length=(oB T k).length+1:=L9 _ _
end
section
variable {o:rO} {w w':World} {p mt mg:Nat} {X:Nat->Prop} {tl:List (Lit×fF)} {gl:List (Lit×ng)}
theorem j7.lV {kt m:Nat}{T:List (Lit×Value)}(h:j7 w kt m T){cs:Array Value}{t:TypeId}{f:Nat×Nat}:w.heap[m]?≠some (.cells cs t f):=λe=>by
 obtain ⟨es,c,h1,-⟩:=h;rw [h1] at e
 cases e
theorem AK.uT {t:fF}(h:AK o w X t){kt m:Nat}{T:List (Lit×Value)}(hm:j7 w kt m T){b:Nat}(hb:jP t.q t.sv b):b≠m:=λe=>by
 subst e;rcases hb with e|e
 . subst e;exact hm.lV h.dV
 . rcases h.own.2 with ⟨hv,-⟩|⟨g,cap,cur,hv,-,hc,-⟩
   . rw [hv] at e;cases e
   . rw [hv] at e;cases e;exact hm.lV hc
theorem cx.less (h:cx o w p mt mg X tl gl){ye:List (Lit×ng)}(hs:ye.Sublist gl)(hM:j7 w' 189 mg (eZ ng.val ye))(kd:w.heap.size<=w'.heap.size)(hg:∀b,b<w.heap.size->b≠mg->w'.heap[b]?=w.heap[b]?):cx o w' p mt mg X tl ye:=by
 have hX:=h.sub mg (.inr (.inl rfl));have iP:CL w w' X X:=⟨kd,λb h1 h2=>hg b h1 (λe=>by subst e;exact h2 hX),λ_ hb=>.inl hb⟩;have FJ:∀x∈tl,∀b,jP x.2.q x.2.sv b->w'.heap[b]?=w.heap[b]?:=λx hx b hb=>hg b (jP.inside (h.tab x hx) hb) ((h.tab x hx).uT h.yA hb);have hmt:w'.heap[mt]?=w.heap[mt]?:=hg mt h.yz.lt h.ne;exact
  { dV:=(iP.block p (az h.dV) h.pX).trans h.dV
    yz:=h.yz.kept hmt
    yA:=hM
    ne:=h.ne
    tab:=λx hx=>(h.tab x hx).stays iP (FJ x hx _ (.inl rfl)) (λk hk=>FJ x hx k (.inr hk))
    apart:=h.apart
    gr:=λx hx=>by
     obtain ⟨u,t,h1,h2,h3,tc,h4,h5⟩:=h.gr x (hs.subset hx);exact ⟨u,t,h1,h2,h3,tc,h4,h5.stays iP⟩
    names:=h.names
    sub:=h.sub
    nO:=λb hb=>aF (h.nO b hb) kd
    pX:=h.pX
    few:=⟨h.few.1,aw hs.length_le h.few.2⟩ }
theorem cx.lost (h:cx o w p mt mg X tl gl){ye:List (Lit×ng)}(hs:ye.Sublist gl)(hM:j7 w' 189 mg (eZ ng.val ye))(hK:aQ (λb=>b<w.heap.size/\b≠mg) w w'){f:Nat×Nat}{r:Ending}(hr:r=.returned (.agg #[.int .i64 f.1,.int .i64 f.2])):jR o w w' p mt mg X tl (f,cw tl ye) r:=by
 have h':=h.less hs hM hK.size (λb h1 h2=>hK.block b ⟨h1,h2⟩);refine ⟨hr,tl,ye,rfl,h'.stays ⟨af _,λ_ _ _=>rfl,λb hb=>hb.elim .inl (λhb=>.inl (h.sub b hb))⟩ (λ_ _=>rfl) (λ_ hb=>.inl hb) (λb hb=>hb.elim (h'.nO b) (λhb=>h'.nO b (h.sub b hb))),⟨hK.os,hK.tape,hK.output,hK.size,λb hb=>hK.block b ⟨hb.1,λe=>hb.2 (.inr (.inl e))⟩⟩,λb hb=>.inl hb⟩
theorem cx.more (h:cx o w p mt mg X tl gl){t:ByteArray}(ht:t.size<=8)(hn:eA tl (tk t)=none)(hl:tl.length<4){q:Nat}{cv:Value}{cols:List cU}(hM:j7 w' 9 mt (eZ fF.val (oK tl (tk t) ⟨q,cv,.slice none 0 0,[],cols,[]⟩)))(hK:aQ (λb=>b<w.heap.size/\b≠mt) w w')(hq:w.heap.size<=q)
 (bW:w'.heap[q]?=some (.cells #[cv,.slice none 0 0,.int .i64 0] 194 (0,0))) (N2:gq w' cv cols) (YJ:gQ (λb=>b<w.heap.size\/b=q) cv) (U1:pS cols) (Ev:0<cols.length) {r:Ending} (hr:r=.returned (.agg #[.int .i64 0,.int .i64 0])) :
 jR o w w' p mt mg X tl ((0,0),⟨oK (eZ fF.told tl) (tk t) (cols,[]),eZ ng.told gl⟩) r:=by
 have PH:=Tz hn;have hXt:=h.sub mt (.inl rfl);have yH:∀b,vP mt mg (oK tl (tk t) ⟨q,cv,.slice none 0 0,[],cols,[]⟩) b->X b\/b=q:=λb hb=>by
  rcases hb with e|e|⟨x,hx,hb⟩
  . exact .inl (h.sub b (.inl e))
  . exact .inl (h.sub b (.inr (.inl e)))
  . rcases wL hx with rfl|hx
    . rcases hb with e|e
      . exact .inr e
      . cases e
    . exact .inl (h.sub b (.inr (.inr ⟨x,mJ hx,hb⟩)))
 have bE:∀b,(X b\/vP mt mg (oK tl (tk t) ⟨q,cv,.slice none 0 0,[],cols,[]⟩) b)->X b\/b=q:=λb hb=>hb.elim .inl (yH b);have iP:CL w w' X (λb=>X b\/vP mt mg (oK tl (tk t) ⟨q,cv,.slice none 0 0,[],cols,[]⟩) b):=⟨hK.size,λb h1 h2=>hK.block b ⟨h1,λe=>by subst e;exact h2 hXt⟩,λb hb=>(bE b hb).imp id (λe=>by omega)⟩;have FJ:∀x∈tl,∀b,jP x.2.q x.2.sv b->w'.heap[b]?=w.heap[b]?:=λx hx b hb=>hK.block b ⟨jP.inside (h.tab x hx) hb,(h.tab x hx).uT h.yz hb⟩;have hmg:w'.heap[mg]?=w.heap[mg]?:=hK.block mg ⟨h.yA.lt,λe=>h.ne e.symm⟩;have BA:=az bW;refine ⟨hr,oK tl (tk t) ⟨q,cv,.slice none 0 0,[],cols,[]⟩,gl,?_,?_,⟨hK.os,hK.tape,hK.output,hK.size,λb hb=>hK.block b ⟨hb.1,λe=>hb.2 (.inl e)⟩⟩,λb hb=>?_⟩
 . unfold cw
   rw [<- wK];rfl
 . exact
    { dV:=(iP.block p (az h.dV) h.pX).trans h.dV
      yz:=hM
      yA:=h.yA.kept hmg
      ne:=h.ne
      tab:=λx hx=>by
       rcases wL hx with rfl|hx
       . exact
          { dV:=bW
            own:=⟨rfl,.inl ⟨rfl,rfl⟩⟩
            off:=by simp [Value.ownBlock]
            Hb:=N2
            qE:=⟨rfl,λi u c h1=>by simp at h1⟩
            K9:=YJ.mono (λb hb=>(bE b hb).imp (h.nO b) id)
            IB:=λu hu=>by simp at hu
            chk:=lF.nil
            fit:=λr hr=>by simp at hr
            few:=by simp
            BU:=U1
            c0:=Ev }
       . have hx:=mJ hx
         exact (h.tab x hx).stays iP (FJ x hx _ (.inl rfl)) (λk hk=>FJ x hx k (.inr hk))
      apart:=Hg (λa b Iw k h1 h2=>Iw k h2 h1) h.apart (λy hy b h1 h2=>by
       have h3:=jP.inside (h.tab y (mJ hy)) h2;rcases h1 with e|e
       . simp at e;omega
       . cases e)
      gr:=λx hx=>by
       obtain ⟨u,t',h1,h2,h3,tc,h4,h5⟩:=h.gr x hx;exact ⟨u,t',h1,h2,h3,tc,aaw (by rw [PH];exact h4),h5.stays iP⟩
      names:=λx hx=>by
       rcases wL hx with rfl|hx
       . exact ⟨t,rfl,ht⟩
       . exact h.names x (mJ hx)
      sub:=λb hb=>.inr hb
      nO:=λb hb=>by
       rcases bE b hb with e|e
       . exact aF (h.nO b e) hK.size
       . rw [e];exact BA
      pX:=λhb=>by
       rcases bE p hb with e|e
       . exact h.pX e
       . have:=az h.dV;omega
      few:=⟨by rw [RB,PH];omega,h.few.2⟩ }
 . rcases hb with e|e|⟨x,hx,hb⟩
   . exact .inl (.inl e)
   . exact .inl (.inr (.inl e))
   . rcases wL hx with rfl|hx
     . rcases hb with e|e
       . exact .inr (by rw [e];exact hq)
       . cases e
     . exact .inl (.inr (.inr ⟨x,mJ hx,hb⟩))
theorem cx.again (h:cx o w p mt mg X tl gl):cx o w p mt mg (λb=>X b\/vP mt mg tl b) tl gl:=
 h.stays ⟨af _,λ_ _ _=>rfl,λb hb=>hb.elim .inl (λhb=>.inl (h.sub b hb))⟩ (λ_ _=>rfl) (λ_ hb=>.inl hb) (λb hb=>hb.elim (h.nO b) (λhb=>h.nO b (h.sub b hb)))
end
theorem WT {B C:Type}(f:B->C)(T:List (Lit×B))(k:Lit)(b:B):uR (eZ f T) k (f b)=eZ f (uR T k b):=by
 unfold uR eZ;rw [jH,jH];apply ik;intro x _;simp only [Function.comp];split<;>rfl
theorem wU {B:Type}{T:List (Lit×B)}{k:Lit}(hk:WideAt.IsKeyLit k){b:B}{y:Lit×B}(h:y∈uR T k b):(y=(k,b)/\∃c,(k,c)∈T)\/(y∈T/\y.1≠k):=by
 obtain ⟨x,hx,rfl⟩:=dv.mp h;split
 . rename_i hs
   have e:=fV hs;exact .inl ⟨by rw [e],x.2,by rw [<- e];exact hx⟩
 . rename_i hs
   exact .inr ⟨hx,λe=>hs (by rw [e];exact nL hk)⟩
section
variable {o:rO} {w w1 w':World} {p mt mg:Nat} {X X2:Nat->Prop} {tl:List (Lit×fF)} {gl:List (Lit×ng)}
theorem cx.shrink (h:cx o w p mt mg X tl gl)(hX:∀b,X2 b->X b)(hs:∀b,vP mt mg tl b->X2 b):cx o w p mt mg X2 tl gl where
 dV:=h.dV
 yz:=h.yz
 yA:=h.yA
 ne:=h.ne
 tab:=λx hx=>(h.tab x hx).stays ⟨af _,λ_ _ _=>rfl,λb hb=>.inl (hX b hb)⟩ rfl (λ_ _=>rfl)
 apart:=h.apart
 gr:=λx hx=>by
  obtain ⟨u,t,h1,h2,h3,tc,h4,h5⟩:=h.gr x hx;exact ⟨u,t,h1,h2,h3,tc,h4,h5.stays ⟨af _,λ_ _ _=>rfl,λb hb=>.inl (hX b hb)⟩⟩
 names:=h.names
 sub:=hs
 nO:=λb hb=>h.nO b (hX b hb)
 pX:=λhb=>h.pX (hX p hb)
 few:=h.few
theorem MU {α:Type}{R:α->α->Prop}(hs:∀a b,R a b->R b a):∀{T:List α},T.Pairwise R->∀{x y:α},x∈T->y∈T->x≠y->R x y
 |[],_,x,y,hx,_,_=>by simp at hx
 |z::r,h,x,y,hx,hy,iq=>by
   obtain ⟨h1,h2⟩:=dk.mp h;rw [bY] at hx hy;rcases hx with rfl|hx<;>rcases hy with rfl|hy
   . exact absurd rfl iq
   . exact h1 y hy
   . exact hs _ _ (h1 x hx)
   . exact MU hs h2 hx hy iq
theorem cx.loaded (h:cx o w p mt mg X tl gl){t:ByteArray}{tc:fF}(ht:(tk t,tc)∈tl){Da:Value}{Bk:List Value}{tr:List (List (List aL))}{new:List (List aL)}{N:Int}(hA:py X w w' tc.q 0 tc.cols tc.cv tc.sv Da Bk tr N)(hN:N=tr.flatten.length)(IC:lF o.seg tr)(yh:tr.flatten=tc.Cs.flatten++new)(yO:jh tc.cols new)(h64:tr.flatten.length<=64) :
 cx o w' p mt mg (λb=>X b\/vP mt mg (uR tl (tk t) { tc with sv:=Da,vs:=Bk,Cs:=tr }) b) (uR tl (tk t) { tc with sv:=Da,vs:=Bk,Cs:=tr }) gl/\aQ (λb=>b<w.heap.size/\¬vP mt mg tl b) w w'/\∀b,vP mt mg (uR tl (tk t) { tc with sv:=Da,vs:=Bk,Cs:=tr }) b->vP mt mg tl b\/w.heap.size<=b:=by
 have YO:=h.keys;have BV:=h.tab _ ht;have hmt:∀b,jP tc.q tc.sv b->vP mt mg tl b:=λb hb=>.inr (.inr ⟨_,ht,hb⟩);have hnm:∀b,jP tc.q Da b->jP tc.q tc.sv b\/w.heap.size<=b:=λb hb=>by
  rcases hb with e|e
  . exact .inl (.inl e)
  . exact (hA.row b e).imp .inr id
 have bE:∀b,vP mt mg (uR tl (tk t) { tc with sv:=Da,vs:=Bk,Cs:=tr }) b->vP mt mg tl b\/w.heap.size<=b:=λb hb=>by
  rcases hb with e|e|⟨x,hx,hb⟩
  . exact .inl (.inl e)
  . exact .inl (.inr (.inl e))
  . rcases wU (FI t) hx with ⟨rfl,-⟩|⟨hx,-⟩
    . exact (hnm b hb).imp (hmt b) id
    . exact .inl (.inr (.inr ⟨x,hx,hb⟩))
 have hX':∀b,(X b\/vP mt mg (uR tl (tk t) { tc with sv:=Da,vs:=Bk,Cs:=tr }) b)->X b\/w.heap.size<=b:=λb hb=>hb.elim .inl (λhb=>(bE b hb).imp (h.sub b) id);have iP:CL w w' X (λb=>X b\/vP mt mg (uR tl (tk t) { tc with sv:=Da,vs:=Bk,Cs:=tr }) b):=⟨hA.keep.size,λb h1 h2=>hA.keep.block b ⟨h1,λhm=>h2 (h.sub b (hmt b hm))⟩,hX'⟩;have WV:∀x∈tl,x.1≠tk t->∀b,jP x.2.q x.2.sv b->w'.heap[b]?=w.heap[b]?:=λx hx iq b hb=>hA.keep.block b ⟨jP.inside (h.tab x hx) hb,λhm=>MU (λa b Iw k h1 h2=>Iw k h2 h1) h.apart hx ht (λe=>iq (by rw [e])) b hb hm⟩;have RZ:eZ fF.val (uR tl (tk t) { tc with sv:=Da,vs:=Bk,Cs:=tr })=eZ fF.val tl:=by
  unfold eZ uR;rw [jH];apply ik;intro x hx;simp only [Function.comp];split
  . rename_i hs
    have e:=fV hs;have e2:x.2=tc:=tM YO (k:=tk t) (by rw [<- e];exact hx) ht;rw [<- e2];rfl
  . rfl
 have WW:∀b,jP tc.q tc.sv b->b≠mt/\b≠mg:=λb hb=>⟨BV.uT h.yz hb,BV.uT h.yA hb⟩;refine ⟨?_,⟨hA.keep.os,hA.keep.tape,hA.keep.output,hA.keep.size,λb hb=>hA.keep.block b ⟨hb.1,λhm=>hb.2 (hmt b hm)⟩⟩,bE⟩;exact
  { dV:=(iP.block p (az h.dV) h.pX).trans h.dV
    yz:=by rw [RZ];exact h.yz.kept (hA.keep.block mt ⟨h.yz.lt,λhm=>(WW mt hm).1 rfl⟩)
    yA:=h.yA.kept (hA.keep.block mg ⟨h.yA.lt,λhm=>(WW mg hm).2 rfl⟩)
    ne:=h.ne
    tab:=λx hx=>by
     rcases wU (FI t) hx with ⟨rfl,-⟩|⟨hx,iq⟩
     . exact
        { dV:=by have:=hA.dV;rw [hN] at this;exact this
          own:=hA.own
          off:=hA.off
          Hb:=hA.Hb
          qE:=hA.qE
          K9:=bF.away BV.Hb BV.K9 BV.c0 hX'
          IB:=λu hu a n c hv hm=>by
           rcases hm with e|e|e|⟨y,hy,e⟩
           . exact hA.YE u hu a n c hv e
           . exact hA.YE u hu a n c hv (h.sub _ (.inl e))
           . exact hA.YE u hu a n c hv (h.sub _ (.inr (.inl e)))
           . rcases wU (FI t) hy with ⟨rfl,-⟩|⟨hy,-⟩
             . exact hA.IB u hu a n c hv e
             . exact hA.YE u hu a n c hv (h.sub _ (.inr (.inr ⟨y,hy,e⟩)))
          chk:=IC
          fit:=by
           show jh tc.cols tr.flatten;rw [yh];intro r hr;rw [dm] at hr;rcases hr with hr|hr
           . exact BV.fit r hr
           . exact yO r hr
          few:=h64
          BU:=BV.BU
          c0:=BV.c0 }
     . exact (h.tab x hx).stays iP (WV x hx iq _ (.inl rfl)) (λk hk=>WV x hx iq k (.inr hk))
    apart:=by
     unfold uR;refine sA.mpr (List.Pairwise.imp_of_mem (λ{x y} hx hy YT=>?_) (h.apart.and YO));intro b h1 h2;have mC:∀z∈tl,jP z.2.q z.2.sv b->b<w.heap.size:=λz hz hb=>jP.inside (h.tab z hz) hb;by_cases ex:x.1.sameKey (tk t)=true
     . have e:=fV ex
       have ey:¬y.1.sameKey (tk t)=true:=λey=>YT.2 (by rw [e,fV ey]);have e2:x.2=tc:=tM YO (k:=tk t) (by rw [<- e];exact hx) ht;rw [aH ex] at h1;rw [aA ey] at h2;rcases hnm b h1 with h3|h3
       . exact YT.1 b (by rw [e2];exact h3) h2
       . have:=mC y hy h2;omega
     . rw [aA ex] at h1
       by_cases ey:y.1.sameKey (tk t)=true
       . have e:=fV ey
         have e2:y.2=tc:=tM YO (k:=tk t) (by rw [<- e];exact hy) ht;rw [aH ey] at h2;rcases hnm b h2 with h3|h3
         . exact YT.1 b h1 (by rw [e2];exact h3)
         . have:=mC x hx h1;omega
       . rw [aA ey] at h2
         exact YT.1 b h1 h2
    gr:=λx hx=>by
     obtain ⟨u,t',h1,h2,h3,tc0,h4,h5⟩:=h.gr x hx;by_cases e:(tk t').sameKey (tk t)=true
     . have e1:=fV e
       have e2:tc0=tc:=tM YO (k:=tk t) (by rw [<- e1];exact h4) ht;subst e2;exact ⟨u,t',h1,h2,h3,{ tc0 with sv:=Da,vs:=Bk,Cs:=tr },dv.mpr ⟨_,h4,by simp only [e,if_true]⟩,h5.stays iP⟩
     . exact ⟨u,t',h1,h2,h3,tc0,dv.mpr ⟨_,h4,by simp only [e];rfl⟩,h5.stays iP⟩
    names:=λx hx=>by
     rcases wU (FI t) hx with ⟨rfl,-⟩|⟨hx,-⟩
     . have agJ:=h.names (tk t,tc) ht
       exact agJ
     . exact h.names x hx
    sub:=λb hb=>.inr hb
    nO:=λb hb=>by
     rcases hb with hb|hb
     . exact aF (h.nO b hb) hA.keep.size
     . rcases hb with e|e|⟨x,hx,hb⟩
       . exact aF (h.nO b (h.sub b (.inl e))) hA.keep.size
       . exact aF (h.nO b (h.sub b (.inr (.inl e)))) hA.keep.size
       . rcases wU (FI t) hx with ⟨rfl,-⟩|⟨hx,-⟩
         . rcases hb with e|e
           . rw [e];exact az hA.dV
           . exact (hA.own.lt b e).2
         . exact aF (jP.inside (h.tab x hx) hb) hA.keep.size
    pX:=λhb=>by
     rcases hX' p hb with e|e
     . exact h.pX e
     . have:=az h.dV;omega
    few:=⟨by unfold uR;rw [aW];exact h.few.1,h.few.2⟩ }
end
section
variable {o:rO} {w w':World} {p mt mg:Nat} {X:Nat->Prop} {tl:List (Lit×fF)} {gl:List (Lit×ng)}
theorem cx.granted (h:cx o w p mt mg X tl gl){u t:ByteArray}(hu:u.size<=8)(ht:t.size<=8){tc:fF}(TA:(tk t,tc)∈tl){g:ng}(hM:j7 w' 189 mg (eZ ng.val (oK gl (gk u t) g)))(hK:aQ (λb=>b<w.heap.size/\b≠mg) w w')(hl:(oB gl (gk u t)).length<8)(yT:Tp w' X tc.cols g){r:Ending}(hr:r=.returned (.agg #[.int .i64 0,.int .i64 0])) :
 jR o w w' p mt mg X tl ((0,0),⟨eZ fF.told tl,oK (eZ ng.told gl) (gk u t) g.told⟩) r:=by
 have hX:=h.sub mg (.inr (.inl rfl));have iP:CL w w' X X:=⟨hK.size,λb h1 h2=>hK.block b ⟨h1,λe=>by subst e;exact h2 hX⟩,λ_ hb=>.inl hb⟩;have FJ:∀x∈tl,∀b,jP x.2.q x.2.sv b->w'.heap[b]?=w.heap[b]?:=λx hx b hb=>hK.block b ⟨jP.inside (h.tab x hx) hb,(h.tab x hx).uT h.yA hb⟩;have hmt:w'.heap[mt]?=w.heap[mt]?:=hK.block mt ⟨h.yz.lt,h.ne⟩;have h':cx o w' p mt mg X tl (oK gl (gk u t) g):=
  { dV:=(iP.block p (az h.dV) h.pX).trans h.dV
    yz:=h.yz.kept hmt
    yA:=hM
    ne:=h.ne
    tab:=λx hx=>(h.tab x hx).stays iP (FJ x hx _ (.inl rfl)) (λk hk=>FJ x hx k (.inr hk))
    apart:=h.apart
    gr:=λx hx=>by
     rcases wL hx with rfl|hx
     . exact ⟨u,t,rfl,hu,ht,tc,TA,yT⟩
     . obtain ⟨u',t',h1,h2,h3,tc0,h4,h5⟩:=h.gr x (mJ hx)
       exact ⟨u',t',h1,h2,h3,tc0,h4,h5.stays iP⟩
    names:=h.names
    sub:=h.sub
    nO:=λb hb=>aF (h.nO b hb) hK.size
    pX:=h.pX
    few:=⟨h.few.1,by rw [RB];omega⟩ }
 refine ⟨hr,tl,oK gl (gk u t) g,?_,h'.again,⟨hK.os,hK.tape,hK.output,hK.size,λb hb=>hK.block b ⟨hb.1,λe=>hb.2 (.inr (.inl e))⟩⟩,λb hb=>.inl hb⟩;unfold cw;rw [<- wK]
theorem cx.dropped (h:cx o w p mt mg X tl gl){t:ByteArray}{ye:List (Lit×ng)}(hs:ye.Sublist gl)(YL:∀x∈ye,∀u:ByteArray,u.size<=8->x.1≠gk u t)(hM:j7 w' 9 mt (eZ fF.val (oB tl (tk t))))(hG:j7 w' 189 mg (eZ ng.val ye))(hK:aQ (λb=>b<w.heap.size/\b≠mt/\b≠mg) w w'){r:Ending}(hr:r=.returned (.agg #[.int .i64 0,.int .i64 0])) :
 jR o w w' p mt mg X tl ((0,0),⟨oB (eZ fF.told tl) (tk t),eZ ng.told ye⟩) r:=by
 have hX:=h.sub mg (.inr (.inl rfl));have hXt:=h.sub mt (.inl rfl);have iP:CL w w' X X:=⟨hK.size,λb h1 h2=>hK.block b ⟨h1,λe=>by subst e;exact h2 hXt,λe=>by subst e;exact h2 hX⟩,λ_ hb=>.inl hb⟩;have FJ:∀x∈tl,∀b,jP x.2.q x.2.sv b->w'.heap[b]?=w.heap[b]?:=λx hx b hb=>hK.block b ⟨jP.inside (h.tab x hx) hb,(h.tab x hx).uT h.yz hb,(h.tab x hx).uT h.yA hb⟩;have yH:∀b,vP mt mg (oB tl (tk t)) b->vP mt mg tl b:=λb hb=>by
  rcases hb with e|e|⟨x,hx,hb⟩
  . exact .inl e
  . exact .inr (.inl e)
  . exact .inr (.inr ⟨x,mJ hx,hb⟩)
 have h':cx o w' p mt mg X (oB tl (tk t)) ye:=
  { dV:=(iP.block p (az h.dV) h.pX).trans h.dV
    yz:=hM
    yA:=hG
    ne:=h.ne
    tab:=λx hx=>(h.tab x (mJ hx)).stays iP (FJ x (mJ hx) _ (.inl rfl)) (λk hk=>FJ x (mJ hx) k (.inr hk))
    apart:=h.apart.filter _
    gr:=λx hx=>by
     obtain ⟨u',t',h1,h2,h3,tc0,h4,h5⟩:=h.gr x (hs.subset hx);have iq:t'≠t:=λe=>YL x hx u' h2 (by rw [h1,e]);exact ⟨u',t',h1,h2,h3,tc0,aav h4 (λe=>iq (adZ e)),h5.stays iP⟩
    names:=λx hx=>h.names x (mJ hx)
    sub:=λb hb=>h.sub b (yH b hb)
    nO:=λb hb=>aF (h.nO b hb) hK.size
    pX:=h.pX
    few:=⟨aw (jX _ _) h.few.1,aw hs.length_le h.few.2⟩ }
 refine ⟨hr,oB tl (tk t),ye,?_,h'.again,⟨hK.os,hK.tape,hK.output,hK.size,λb hb=>hK.block b ⟨hb.1,λe=>hb.2 (.inl e),λe=>hb.2 (.inr (.inl e))⟩⟩,λb hb=>.inl (yH b hb)⟩;unfold cw;rw [tC]
end
section
variable {o:rO} {w w1 w2:World} {p mt mg:Nat} {X:Nat->Prop} {tl:List (Lit×fF)} {gl:List (Lit×ng)}
theorem AK.adds {tc:fF}(h:AK o w X tc)(hX:∀b,X b->b<w.heap.size)(hM:∀b,jP tc.q tc.sv b->X b):py X w w tc.q 0 tc.cols tc.cv tc.sv tc.sv tc.vs tc.Cs (tc.Cs.flatten.length:Nat) where
 dV:=h.dV
 Hb:=h.Hb
 own:=h.own
 qE:=h.qE
 row:=λ_ hg=>.inl hg
 off:=h.off
 K9:=h.K9.mono hM
 IB:=λu hu=>(h.IB u hu).mono hM
 keep:=aQ.refl _ _
 lq:=az h.dV
 YE:=h.IB
 zin:=hX
theorem cx.wide (h:cx o w p mt mg X tl gl)(hb:Below w.heap.size w w1){k:Nat}(hk:w.heap.size<=k)(nN:k<w1.heap.size):cx o w1 p mt mg (λb=>X b\/b=k) tl gl:=
 h.stays ⟨hb.size,λb h1 _=>hb.block b h1,λb hx=>hx.imp id (λe=>by omega)⟩ (λb hm=>hb.block b (h.nO b (h.sub b hm))) (λb hx=>.inl hx) (λb hx=>by
  rcases hx with hx|hx
  . exact aF (h.nO b hx) hb.size
  . omega)
theorem Xm (h:cx o w p mt mg X tl gl)(hb:Below w.heap.size w w1){k:Nat}(hk:w.heap.size<=k)(nN:k<w1.heap.size){t:ByteArray}{tc:fF}(ht:(tk t,tc)∈tl){Da:Value}{Bk:List Value}{tr:List (List (List aL))}{new:List (List aL)}{N:Int}(hA:py (λb=>X b\/b=k) w1 w2 tc.q 0 tc.cols tc.cv tc.sv Da Bk tr N)(hN:N=tr.flatten.length)(IC:lF o.seg tr)(yh:tr.flatten=tc.Cs.flatten++new)(yO:jh tc.cols new)(h64:tr.flatten.length<=64){W9:World}{x y:Value}(h9:W9=(w2.setCell ⟨k,0,none⟩ x).setCell ⟨k,1,none⟩ y){r:Ending}(hr:r=.returned (.agg #[.int .i64 (0:Nat),.int .i64 (0:Nat)])) :
 jR o w W9 p mt mg X tl ((0,0),⟨uR (eZ fF.told tl) (tk t) (tc.cols,tc.Cs.flatten++new),eZ ng.told gl⟩) r:=by
 obtain ⟨h1,h2,h3⟩:=(h.wide hb hk nN).loaded ht hA hN IC yh yO h64;have kd:W9.heap.size=w2.heap.size:=by rw [h9];simp [World.setCell]
 have P5:∀b,b≠k->W9.heap[b]?=w2.heap[b]?:=λb hb=>by rw [h9];exact (aD _ _ _ _ hb).trans (aD _ _ _ _ hb)
 have hkm:∀b,vP mt mg tl b->b≠k:=λb hm=>by have:=h.nO b (h.sub b hm);omega
 have aeI:∀b,vP mt mg (uR tl (tk t) { tc with sv:=Da,vs:=Bk,Cs:=tr }) b->b≠k:=λb hm=>by
  rcases h3 b hm with e|e
  . exact hkm b e
  . omega
 have h4:=h1.stays (w':=W9) (X':=λb=>(X b\/b=k)\/vP mt mg (uR tl (tk t) { tc with sv:=Da,vs:=Bk,Cs:=tr }) b) ⟨by omega,λb _ hx=>P5 b (λe=>hx (.inl (.inr e))),λb hx=>.inl hx⟩ (λb hm=>P5 b (aeI b hm)) (λb hx=>hx) (λb hx=>by rw [kd];exact h1.nO b hx);refine ⟨hr,_,gl,?_,h4.shrink (λb hx=>hx.imp .inl id) (λb hm=>.inr hm),?_,λb hm=>?_⟩
 . unfold cw
   rw [<- WT];unfold fF.told;rw [<- yh]
 . refine ⟨?_,?_,?_,?_,λb Cm=>?_⟩
   . rw [h9];exact h2.os.trans hb.os
   . rw [h9];exact h2.tape.trans hb.tape
   . rw [h9];exact h2.output.trans hb.output
   . have:=h2.size;have:=hb.size;omega
   . have cF:=Cm.1
     have:=hb.size;exact (P5 b (by omega)).trans ((h2.block b ⟨by omega,Cm.2⟩).trans (hb.block b cF))
 . rcases h3 b hm with e|e
   . exact .inl e
   . have:=hb.size
     exact .inr (by omega)
end
theorem Nh:∀{vs:List qD} {cols:List cU},tL vs cols=none->vs.length=cols.length->∀(i:Nat) (v:qD) (c:cU),vs[i]?=some v->cols[i]?=some c->v.null=true\/v.kind=(c.2:Int)
 |[],_,_,_,i,v,c,hv,_=>by simp at hv
 |v0::r,[],_,hl,_,_,_,_,_=>by simp at hl
 |v0::r,c0::l,h,hl,i,v,c,hv,hc=>by
   unfold tL at h;split at h
   . cases h
   . rename_i hn
     cases i with
     |zero=>
       simp at hv hc;subst hv;subst hc
       cases Ip:v0.null with
       |true=>exact .inl rfl
       |false=>exact .inr (by simpa [Ip] using hn)
     |succ i=>exact Nh h (by simpa using hl) i v c (by simpa using hv) (by simpa using hc)
theorem CU {r:oz}{cols:List cU}(hr:xK r)(h:ft r cols=none):r.vals.length=cols.length/\Ka cols (FE r):=by
 unfold ft at h;split at h
 . cases h
 . rename_i hn
   have hl:r.vals.length=cols.length:=by simpa using hn
   refine ⟨hl,?_⟩;have ha:=Nh h hl;refine ⟨by unfold FE;simpa using hl,λj c k hc hk=>?_⟩;unfold FE at hc;rw [a7] at hc;obtain ⟨v,hv,rfl⟩:=dZ.mp hc;exact aau (hr.2.1 v (aG hv)) (ha j v k hv hk)
def Left (o:rO)(w w':World)(p mt mg:Nat)(X:Nat->Prop)(tl:List (Lit×fF))(st:ou):Prop:=
 ∃MS ye,cw MS ye=st/\cx o w' p mt mg (λb=>X b\/vP mt mg MS b) MS ye/\aQ (λb=>b<w.heap.size/\¬vP mt mg tl b) w w'/\∀b,vP mt mg MS b->vP mt mg tl b\/w.heap.size<=b
section
variable {o:rO} {w w1 w2 W9:World} {p mt mg:Nat} {X:Nat->Prop} {tl:List (Lit×fF)} {gl:List (Lit×ng)} {st:ou}
theorem Left.same (h:cx o w p mt mg X tl gl)(hb:Below w.heap.size w w1):Left o w w1 p mt mg X tl (cw tl gl):=(h.same hb (0,0) rfl).2
theorem Left.ends (h:cx o w p mt mg X tl gl)(hb:Below w.heap.size w w1){k:Nat}(hk:w.heap.size<=k)(nN:k<w1.heap.size)(hL:Left o w1 w2 p mt mg (λb=>X b\/b=k) tl st)(h9:aQ (λb=>b<w2.heap.size/\b≠k) w2 W9):Left o w W9 p mt mg X tl st:=by
 obtain ⟨MS,ye,he,h1,h2,h3⟩:=hL;have hkm:∀b,vP mt mg tl b->b≠k:=λb hm=>by have:=h.nO b (h.sub b hm);omega
 have aeI:∀b,vP mt mg MS b->b≠k:=λb hm=>by
  rcases h3 b hm with e|e
  . exact hkm b e
  . omega
 have h4:=h1.stays (w':=W9) (X':=λb=>(X b\/b=k)\/vP mt mg MS b) ⟨h9.size,λb hb hx=>h9.block b ⟨hb,λe=>hx (.inl (.inr e))⟩,λb hx=>.inl hx⟩ (λb hm=>h9.block b ⟨h1.nO b (.inr hm),aeI b hm⟩) (λb hx=>hx) (λb hx=>aF (h1.nO b hx) h9.size);refine ⟨MS,ye,he,h4.shrink (λb hx=>hx.imp .inl id) (λb hm=>.inr hm),⟨h9.os.trans (h2.os.trans hb.os),h9.tape.trans (h2.tape.trans hb.tape),h9.output.trans (h2.output.trans hb.output),aw hb.size (aw h2.size h9.size),λb Cm=>?_⟩,λb hm=>?_⟩
 . have cF:=Cm.1
   have:=hb.size;have:=h2.size;exact (h9.block b ⟨by omega,by omega⟩).trans ((h2.block b ⟨by omega,Cm.2⟩).trans (hb.block b cF))
 . rcases h3 b hm with e|e
   . exact .inl e
   . have:=hb.size
     exact .inr (by omega)
end
def aaK (a:Tq):Value:=.tuple #[.string ⟨a.1.toArray⟩,.agg #[.int .i64 (a.2.1:Nat),.int .i64 (a.2.2:Nat)]]
noncomputable def qs (bud:Nat)(st:ou)(user:ByteArray)(c:xZ):Tq×ou:=
 match c with
 |.query ss=>(match ss with|s::r=>kY bud st user s.pl s.table r|[]=>([],0,0),st)
 |c=>if kh user gZ then (([],(km st c).1.1,(km st c).1.2),(km st c).2) else (([],4,0),st)
theorem uU {bud:Nat}{st:ou}{user text:ByteArray}{c:xZ}(h:¬300<text.size)(hc:gP text=.inl c):qA bud st user text=qs bud st user c:=by
 unfold qA;rw [aA h,hc]
 cases c<;>rfl
theorem AX {bud:Nat}{st:ou}{user text:ByteArray}{q:Nat×Nat}(h:¬300<text.size)(hc:gP text=.inr q):qA bud st user text=(([],q.1,q.2),st):=by
 unfold qA;rw [aA h,hc]
theorem oP {o:rO}{w:World}{p mt mg:Nat}{X:Nat->Prop}{tl:List (Lit×fF)}{gl:List (Lit×ng)}(h:cx o w p mt mg X tl gl){user:ByteArray}{te:TypeId}{v:Value}{f:Nat}{res:(Nat×Nat)×ou}
 (ta1:∀w,(Instr.typeAssert (.iface te v) 70 109 true).run Tryz.prog w=.ok (.tuple #[.agg #[.int .i64 0,.string ⟨#[]⟩,.int .i64 0,.slice none 0 0],.bool false]) w)
 (ta2:∀w,(Instr.typeAssert (.iface te v) 70 112 true).run Tryz.prog w=.ok (.tuple #[.iface te v,.bool true]) w)
 (hm:∀w,Sem.run Tryz.prog (method 519 te v "quarry/quarry.apply") w=.ok (f,v) w) (U1:∀(args:Array Value) (w:World),Sem.run Tryz.prog (callFunc f args) w=.ok (.enter f args) w)
 (Eg:∀w1 X1,Below w.heap.size w w1->cx o w1 p mt mg X1 tl gl->Calls Tryz.prog f #[v,.pointer (some ⟨p,0,none⟩)] w1 λr w'=>jR o w1 w' p mt mg X1 tl res r) :
 Calls Tryz.prog 24 #[.pointer (some ⟨p,0,none⟩),.string user,.iface te v] w λr w'=>r=.returned (aaK (if kh user gZ then ([],res.1.1,res.1.2) else ([],4,0)))/\Left o w w' p mt mg X tl (if kh user gZ then res.2 else cw tl gl):=by
 obtain ⟨W,hW⟩:∃W,W=w.alloc (.cells #[.int .i64 0,.int .i64 0] 72):=⟨_,rfl⟩;have lK:Below w.heap.size w W:=by rw [hW];exact (ag _ _).alloc (af _) _
 have hR:W.heap[w.heap.size]?=some (.cells #[.int .i64 0,.int .i64 0] 72 (0,0)):=by rw [hW];exact ai w _
 have HL:=hide (Eg W _ lK (h.wide lK (af _) (az hR)));have HH:=hide h;have oD:=hide lK;have HW:=hide hW;have HR:=hide hR;obtain ⟨f0,f1⟩:=bj hR;have z0:=lz hR 0;have z1:=lz hR 1;have NY:=az hR;clear h lK hW hR Eg
 cases he:kh user gZ with
 |false=>
   have iq:(user.toList==[97,100,109,105,110])=false:=by rw [dx];exact he
   have HE:Hid (Left o w (w.alloc (.cells #[.int .i64 4,.int .i64 0] 72)) p mt mg X tl (cw tl gl)):=hide (Left.same (ae HH) ((ag _ _).alloc (af _) _));have hc:=bj (ai w (.cells #[.int .i64 4,.int .i64 0] 72));obtain ⟨d0,d1⟩:=hc;clear he;go_enter Tryz.func24,Tryz.ntmps24;go_wp2_with fail;refine ay (v:=.tuple #[.string ⟨#[]⟩,.agg #[.int .i64 4,.int .i64 0]]) (by simp [results,Tryz.results24,go_sem,d0,d1];try rfl) rfl ?_;exact ⟨rfl,ae HE⟩
 |true=>
   have iq:(user.toList==[97,100,109,105,110])=true:=by rw [dx];exact he
   clear he;go_enter Tryz.func24,Tryz.ntmps24;go_wp2_with fail;rw [<- ae HW];refine (ae HL).mono ?_;rintro r w2 ⟨rfl,hL⟩;have yS:w2.heap[w.heap.size]?=some (.cells #[.int .i64 0,.int .i64 0] 72 (0,0)):=by
    obtain ⟨MS,ye,-,-,hk,-⟩:=hL;refine (hk.block _ ⟨NY,λhm=>?_⟩).trans (ae HR);have:=(ae HH).nO _ ((ae HH).sub _ hm);omega
   obtain ⟨g0,g1⟩:=bj yS;have y0:=lz yS 0;have y1:=lz yS 1;have Kc:=az yS;have HE:Hid (Left o w ((w2.setCell ⟨w.heap.size,0,none⟩ (.int .i64 (res.1.1:Nat))).setCell ⟨w.heap.size,1,none⟩ (.int .i64 (res.1.2:Nat))) p mt mg X tl res.2):=hide (Left.ends (ae HH) (ae oD) (af _) NY hL (((aQ.refl _ _).setCell (λhk=>hk.2 rfl) _).setCell (λhk=>hk.2 rfl) _));have xY:=hide yS;clear hL yS;go_wp2_with fail;obtain ⟨d0,d1⟩:=bj (aO _ _ 1 _ _ (.int .i64 (res.1.2:Nat)) (aO _ _ 0 _ _ (.int .i64 (res.1.1:Nat)) (ae xY)));refine ay (v:=.tuple #[.string ⟨#[]⟩,.agg #[.int .i64 (res.1.1:Nat),.int .i64 (res.1.2:Nat)]]) (by simp [results,Tryz.results24,go_sem,d0,d1];try rfl) rfl ?_;exact ⟨rfl,ae HE⟩
end
end Go.Proofs.YteniahoehoncjaaGreatDoor
