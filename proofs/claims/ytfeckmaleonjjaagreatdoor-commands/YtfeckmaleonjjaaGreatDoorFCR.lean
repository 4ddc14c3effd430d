import Derived.Test.YtfeckmaleonjjaaGreatDoorFCL
import Derived.Test.YtfeckmaleonjjaaGreatDoorFAT
import Derived.Test.YtfeckmaleonjjaaGreatDoorFCO
import Derived.Test.YtfeckmaleonjjaaGreatDoorFCN
set_option maxHeartbeats 0
set_option maxRecDepth 100000
namespace Go.Proofs.YtfeckmaleonjjaaGreatDoor
open Go.World renaming cell?→Ξ
open List renaming length→Λ
open Go.RowKit
open _root_.Go.Proofs.Tryz
open Option renaming some→σ,none→ν
open Go.IntKind renaming i64→κ
open Go.Ending renaming returned→τ
open Go.Obj renaming cells→ξ
open Go renaming World→ω,Value→υ
open Go.RowKit renaming Below→δ
open Go.Value renaming int→ι,string→θ,slice→ψ,pointer→π,agg→χ
variable{m i u:υ}{x b:Γ}{v a:Nat}{n:Δ υ}{l:Δ Nat}{r:Nat->Prop}{s:Nat×Nat}{c:Int}
section
open Go.Maps
structure iU where
 q:Nat
 cv:υ
 sv:υ
 vs:Δ υ
 cy:Δ bU
 Cs:Δ (Δ (Δ aF))
structure pL where
 Kq:υ
 wv:υ
 sh:Δ Nat
 e:Ex
 a:ω
 lo:Nat
abbrev Zy:=Δ bU×Δ (Δ aF)
abbrev GrP:=Δ Nat×Ex
structure vT where
 tabs:Δ (Lit×Zy)
 Da:Δ (Lit×GrP)
def iU.told(t:iU):Zy:=(t.cy,t.Cs.flatten)
def pL.told(g:pL):GrP:=(g.sh,g.e)
def iU.val(t:iU):υ:=π (σ ⟨t.q,0,ν⟩)
def pL.val(g:pL):υ:=χ #[g.Kq,g.wv]
def adr(cy:Δ bU)(g:GrP):Prop:=0<Λ g.1/\(Λ g.1)<=5/\(∀s∈g.1,s<Λ cy)/\tS g.2/\dp cy g.2=.inl 2
structure EB (o:zr)(w:ω)(X:Nat->Prop)(t:iU):Prop where
 jy:w.heap[t.q]?=σ (ξ #[t.cv,t.sv,ι κ (Λ t.Cs.flatten)] 244 (0,0))
 own:w.ownsRow 0 245 1 t.sv (Λ t.Cs) t.vs
 off:t.sv.ownBlock≠σ t.q
 Lc:eK w t.cv t.cy
 uB:wI w t.cy t.vs t.Cs
 OW:jM X t.cv
 MA:∀u∈t.vs,jM X u
 chk:oi o.seg t.Cs
 fit:nB t.cy t.Cs.flatten
 few:Λ t.Cs.flatten<=64
 GQ:Bj t.cy
 c0:0<Λ t.cy
structure Zz (w:ω)(X:Nat->Prop)(cy:Δ bU)(g:pL):Prop where
 shr:lR w g.Kq g.sh
 shn:jM X g.Kq
 work:fN g.a g.lo g.wv (pK cy) (λrow=>jq cy row g.e)
 kept:lH g.lo g.a.heap.size g.a w
 away:∀b,g.lo<=b->b<g.a.heap.size->¬X b
 fit:adr cy g.told
def zK(mt mg:Nat)(tl:Δ (Lit×iU))(b:Nat):Prop:=b=mt\/b=mg\/∃x∈tl,mA x.2.q x.2.sv b
structure dH (o:zr)(w:ω)(p mt mg:Nat)(X:Nat->Prop)(tl:Δ (Lit×iU))(gl:Δ (Lit×pL)):Prop where
 jy:w.heap[p]?=σ (ξ #[ι κ o.seg,ι κ o.pk,ι κ o.wd,.bool o.prune,.bool o.push,ι κ o.bz,.map (σ mt),.map (σ mg)] 74 (0,0))
 Cg:mK w 9 mt (ik iU.val tl)
 Ch:mK w 239 mg (ik pL.val gl)
 ne:mt≠mg
 tab:∀x∈tl,EB o w X x.2
 apart:tl.Pairwise (λx y=>∀b,mA x.2.q x.2.sv b->¬mA y.2.q y.2.sv b)
 gr:∀x∈gl,∃u t:Γ,x.1=gk u t/\u.size<=8/\t.size<=8/\∃tc,(tk t,tc)∈tl/\Zz w X tc.cy x.2
 bJ:∀x∈tl,∃t:Γ,x.1=tk t/\t.size<=8
 sub:∀b,zK mt mg tl b->X b
 pZ:∀b,X b->b<w.heap.size
 pX:¬X p
 few:Λ tl<=4/\(Λ gl)<=8
section
variable {o:zr} {w w':ω} {p mt mg:Nat} {X X':Nat->Prop} {tl:Δ (Lit×iU)} {gl:Δ (Lit×pL)} {t:iU} {g:pL} {cy:Δ bU}
theorem jM.mono{a:Nat->Prop}(e:jM r m)(f:∀b,a b->r b):jM a m:=λc l d j i=>e c l d j (f _ i)
theorem aS.away{size:Nat}(i:aS w size m v n)(s:jM X m)(j:0<v)(l:∀a,X' a->X a\/w.heap.size<=a):jM X' m:=λb f c e r=>by
 rcases l _ r with d|d
 . exact s b f c e d
 . have:=aS.inside i j b f c e;omega
structure Gh (w w':ω)(X X':Nat->Prop):Prop where
 size:w.heap.size<=w'.heap.size
 block:∀b,b<w.heap.size->¬X b->w'.heap[b]?=w.heap[b]?
 grows:∀b,X' b->X b\/w.heap.size<=b
theorem EB.stays(a:EB o w X t)(b:Gh w w' X X')(m:w'.heap[t.q]?=w.heap[t.q]?)(n:∀k,t.sv.ownBlock=σ k->w'.heap[k]?=w.heap[k]?):EB o w' X' t where
 jy:=m.trans a.jy
 own:=vh a.own n
 off:=a.off
 Lc:=aS.moves a.Lc a.OW b.size b.block
 uB:=a.uB.moves a.MA b.size b.block
 OW:=aS.away a.Lc a.OW a.c0 b.grows
 MA:=λf d=>by
  obtain⟨e,c⟩:=cB d;have r:=(ah.mp c).1;obtain⟨u,i,j⟩:=a.uB.2 e f (t.Cs[e]'(by rw[<- a.uB.1];exact r)) c (af _);have s:0<Λ u:=by have l:=j.1;have:=a.c0;rw[bk]at l;omega
  exact aS.away i (a.MA f d) s b.grows
 chk:=a.chk
 fit:=a.fit
 few:=a.few
 GQ:=a.GQ
 c0:=a.c0
theorem Zz.stays(a:Zz w X cy g)(b:Gh w w' X X'):Zz w' X' cy g where
 shr:=aS.moves a.shr a.shn b.size b.block
 shn:=aS.away a.shr a.shn a.fit.1 b.grows
 work:=a.work
 kept:=⟨ay a.kept.1 b.size,λk d c=>(b.block k (aw c a.kept.1) (a.away k d c)).trans (a.kept.2 k d c)⟩
 away:=λe d c i=>by
  rcases b.grows e i with f|f
  . exact a.away e d c f
  . have:=a.kept.1;omega
 fit:=a.fit
theorem mA.inside(a:EB o w X t)(c:mA t.q t.sv v):v<w.heap.size:=by rcases c with rfl|b;{exact aA a.jy};exact(a.own.lt v b).2
theorem dH.stays(a:dH o w p mt mg X tl gl)(f:Gh w w' X X')(e:∀b,zK mt mg tl b->w'.heap[b]?=w.heap[b]?)(s:∀b,X b->X' b)(x:∀b,X' b->b<w'.heap.size):dH o w' p mt mg X' tl gl where
 jy:=(f.block p (aA a.jy) a.pX).trans a.jy
 Cg:=a.Cg.kept (e mt (.inl rfl))
 Ch:=a.Ch.kept (e mg (.inr (.inl rfl)))
 ne:=a.ne
 tab:=λd c=>(a.tab d c).stays f (e _ (.inr (.inr ⟨d,c,.inl rfl⟩))) (λk v=>e k (.inr (.inr ⟨d,c,.inr v⟩)))
 apart:=a.apart
 gr:=λd c=>by
  obtain⟨z,t,j,l,m,y,n,r⟩:=a.gr d c;exact⟨z,t,j,l,m,y,n,r.stays f⟩
 bJ:=a.bJ
 sub:=λb u=>s b (a.sub b u)
 pZ:=x
 pX:=λc=>by
  rcases f.grows p c with i|i
  . exact a.pX i
  . have:=aA a.jy;omega
 few:=a.few
theorem dH.aU(c:dH o w p mt mg X tl gl)(b:δ w.heap.size w w'):dH o w' p mt mg X tl gl:=
 c.stays ⟨b.size,λa d _=>b.block a d,λ_ b=>.inl b⟩ (λa e=>b.block a (c.pZ a (c.sub a e))) (λ_=>id) (λa f=>aw (c.pZ a f) b.size)
end
def dD(tl:Δ (Lit×iU))(gl:Δ (Lit×pL)):vT:=⟨ik iU.told tl,ik pL.told gl⟩
def rP:Γ:=⟨#[97,100,109,105,110]⟩
def JM(sh:Δ Nat)(F:Δ aF->fE)(t:Zy):Zy:=(sh.map λs=>t.1.getD s default,je F sh t.2)
def JN(st:vT)(uz tj:Γ):Option Zy:=
 match fH st.tabs (tk tj)with
 |none=>ν
 |some t=>if ct uz rP then σ (JM (List.range (Λ t.1)) (λ_=>.inl (ox 1)) t)else(fH st.Da (gk uz tj)).map λg=>JM g.1 (λrow=>jq t.1 row g.2) t
abbrev ZA:=Δ UInt8×Nat×Nat
def pC(bz:Nat)(st:vT)(uz:Γ)(pl:Nat)(t:Nm)(ss:Δ dz):ZA:=
 match JN st uz t.1 with
 |none=>([],5,t.2)
 |some v=>match ss with
   |s::_=>([],2,s.pl)
   |[]=>if bz<Λ v.2 then([],10,pl)else(Rm v.1 v.2,0,0)
def xM:Δ (Nm×Nat)->Δ bU->Nat ⊕ Δ bU
 |[],l=>.inr l
 |c::r,l=>if 0<=mI l c.1.1 then .inl c.1.2 else xM r (l++[(c.1.1,c.2)])
def qy(st:vT)(t:Nm)(cy:Δ (Nm×Nat)):(Nat×Nat)×vT:=
 if(fH st.tabs (tk t.1)).isSome then((6,t.2),st)
 else match xM cy []with
  |.inl b=>((6,b),st)
  |.inr l=>if 4<=Λ st.tabs\/5<Λ l then((8,0),st)else((0,0),⟨o7 st.tabs (tk t.1) (l,[]),st.Da⟩)
noncomputable def EC (st:vT)(t:Nm):(Nat×Nat)×vT:=
 if(fH st.tabs (tk t.1)).isSome then((0,0),⟨o6 st.tabs (tk t.1),st.Da.filter λx=>!@decide (∃u:Γ,u.size<=8/\x.1=gk u t.1) (Classical.propDecidable _)⟩)else((5,t.2),st)
def uE(st:vT)(u t:Nm):(Nat×Nat)×vT:=
 if(fH st.Da (gk u.1 t.1)).isSome then((0,0),⟨st.tabs,o6 st.Da (gk u.1 t.1)⟩)else((5,u.2),st)
def tN:Δ xY->Δ bU->Option Nat
 |v::r,c::l=>if !v.bH&&!decide (v.kind=(c.2:Int))then σ v.pl else tN r l
 |_,_=>ν
def gH(r:oE)(cy:Δ bU):Option Nat:=if Λ r.ew≠Λ cy then σ r.pl else tN r.ew cy
def JO(r:oE):Δ aF:=r.ew.map λv=>⟨v.bH,v.n,v.s⟩
def wL{B:Type}(T:Δ (Lit×B))(k:Lit)(b:B):Δ (Lit×B):=T.map λp=>if p.1.sameKey k then(p.1,b)else p
def AK(st:vT)(t:Nm)(ry:Δ oE):(Nat×Nat)×vT:=
 match fH st.tabs (tk t.1)with
 |none=>((5,t.2),st)
 |some tb=>match ry.findSome? (λr=>gH r tb.1)with
   |some b=>((7,b),st)
   |none=>if 64<Λ tb.2+Λ ry then((8,0),st)else((0,0),⟨wL st.tabs (tk t.1) (tb.1,tb.2++ry.map JO),st.Da⟩)
def fX(cy:Δ bU):Δ Nm->Δ Nat->(Nat×Nat) ⊕ Δ Nat
 |[],l=>.inr (l.mergeSort (λa b=>decide (a<=b)))
 |n::r,l=>if mI cy n.1<0 then .inl (5,n.2)else if l.contains (mI cy n.1).toNat then .inl (6,n.2)else fX cy r (l++[(mI cy n.1).toNat])
def vm(st:vT)(u t:Nm)(cs:Δ Nm)(e:Ex)(pl:Nat):(Nat×Nat)×vT:=
 match fH st.tabs (tk t.1)with
 |none=>((5,t.2),st)
 |some tb=>match fX tb.1 cs []with
   |.inl f=>(f,st)
   |.inr sh=>match dp tb.1 e with
     |.inr f=>(f,st)
     |.inl k=>if k≠2 then((7,pl),st)else if(fH st.Da (gk u.1 t.1)).isNone/\8<=Λ st.Da then((8,0),st)else((0,0),⟨st.tabs,o7 st.Da (gk u.1 t.1) (sh,e)⟩)
noncomputable def wM (st:vT):Bp->(Nat×Nat)×vT
 |.create t cy=>qy st t cy
 |.drop t=>EC st t
 |.load t ry=>AK st t ry
 |.qM u t cs e pl=>vm st u t cs e pl
 |.pO u t=>uE st u t
 |.query _=>((0,0),st)
noncomputable def Kr (bz:Nat)(st:vT)(uz text:Γ):ZA×vT:=
 if 300<text.size then(([],1,0),st)
 else match lG text with
  |.inr q=>(([],q.1,q.2),st)
  |.inl (.query ss)=>(match ss with|s::r=>pC bz st uz s.pl s.tj r|[]=>([],0,0),st)
  |.inl c=>if ct uz rP then(([],(wM st c).1.1,(wM st c).1.2),(wM st c).2)else(([],4,0),st)
theorem eS{w1:ω}{a b c g d:υ}{t:TypeId}(e:w1.heap[v]?=σ (ξ #[m,i,u,a,b,c,g,d] t (0,0))):Ξ w1 (Ad v 0)=σ m/\Ξ w1 (Ad v 1)=σ i/\Ξ w1 (Ad v 2)=σ u/\Ξ w1 (Ad v 3)=σ a/\Ξ w1 (Ad v 4)=σ b/\Ξ w1 (Ad v 5)=σ c/\Ξ w1 (Ad v 6)=σ g/\Ξ w1 (Ad v 7)=σ d:=by simp[World.cell?,e]
theorem dH.find{o:zr}{w:ω}{p mt mg:Nat}{X:Nat->Prop}{tl:Δ (Lit×iU)}{gl:Δ (Lit×pL)}(a:dH o w p mt mg X tl gl)(b:x.size<=maxLen):(Instr.lookup 71 (.map (σ mt)) (θ x) false).run prog w=.ok (match fH tl (tk x)with|some t=>t.val|none=>π ν) w:=by rw[a.Cg.look Tryz.N0 underlying71 (UZ b) (U0 w),jE];cases fH tl (tk x)<;>rfl
theorem dH.ML{o:zr}{w:ω}{p mt mg:Nat}{X:Nat->Prop}{tl:Δ (Lit×iU)}{gl:Δ (Lit×pL)}(a:dH o w p mt mg X tl gl)(d:x.size<=maxLen)(c:b.size<=maxLen):(Instr.lookup 72 (.map (σ mg)) (χ #[θ x,θ b]) true).run prog w=.ok (.tuple #[match fH gl (gk x b)with|some g=>g.val|none=>χ #[ψ ν 0 0,.nilFunc],.bool (fH gl (gk x b)).isSome]) w:=by rw[a.Ch.apC Tryz.uC underlying72 (Jw d c) (N4 w),jE];cases fH gl (gk x b)<;>rfl
def alI(w':ω)(tl:Δ (Lit×iU))(st:vT)(uz tj:Γ)(r:Ending):Prop:=
 ∃(tv Kq wv:υ) (b:Bool),r=τ (.tuple #[χ #[tv,Kq,wv],.bool b])/\((∃ta,tv=.pointer ta)/\(∃a n c,Kq=ψ a n c)/\(wv=.nilFunc\/∃k c,wv=.func (.func k) #[] c))/\((b=false/\JN st uz tj=ν)\/(b=true/\∃(tc:iU) (sh:Δ Nat) (F:Δ aF->fE) (a:ω) (lo:Nat),fH tl (tk tj)=σ tc/\tv=tc.val/\lR w' Kq sh/\fN a lo wv (pK tc.cy) F/\lH lo a.heap.size a w'/\(∀row,pK tc.cy row->∀c,F row=.inl c->xy c)/\0<Λ sh/\(Λ sh)<=5/\(∀s∈sh,s<Λ tc.cy)/\JN st uz tj=σ (JM sh F tc.told)))
theorem oC(a:Addr)(b:Go.Mode)(w:ω):(store a .nilFunc b).run prog w=stored prog w a .nilFunc b:=run_store prog w a _ b rfl
theorem ads{w:ω}(d:lR w m l)(e:0<Λ l)(f:∀o c,Ξ w (Ad v o)≠σ (ι κ c)):jM (λk=>k=v) m:=λn c r j a=>by
 have⟨g,o,s,b,i⟩:=lR.get d (af e);rw[j]at b
 cases b
 simp at a;subst a;exact f _ _ i
theorem ZB{w:ω}{t:TypeId}(c:w.heap[v]?=σ (ξ #[m,i,u] t (0,0)))(d:∀b,m≠ι κ b)(e:∀b,i≠ι κ b)(f:∀b,u≠ι κ b):∀o b,Ξ w (Ad v o)≠σ (ι κ b):=λo b a=>by
 match o,a with
 |0,a=>simp[World.cell?,c]at a;exact d b a
 |1,a=>simp[World.cell?,c]at a;exact e b a
 |2,a=>simp[World.cell?,c]at a;exact f b a
 |o+3,a=>simp[World.cell?,c]at a
theorem AO{B:Type}{T:Δ (Lit×B)}(f:T.Pairwise (λp q=>p.1≠q.1)){k:Lit}{c d:B}(a:(k,c)∈T)(b:(k,d)∈T):c=d:=by
 induction T with
 |nil=>simp at a
 |cons m l j=>
  have⟨e,i⟩:=bE.mp f;rw[bV]at a b;rcases a with a|a<;>rcases b with b|b
  {rw[<- a]at b;exact(Prod.mk.inj b).2.symm};{exact absurd (by rw[<- a]) (e _ b)};{exact absurd (by rw[<- b]) (e _ a)};exact j i a b
theorem dH.keys{o:zr}{w:ω}{p mt mg:Nat}{X:Nat->Prop}{tl:Δ (Lit×iU)}{gl:Δ (Lit×pL)}(a:dH o w p mt mg X tl gl):tl.Pairwise (λp q=>p.1≠q.1):=by have:=a.Cg.apart Tryz.N0;unfold ik at this;exact(jX.mp this).imp id
theorem Vg{o:zr}{w:ω}{p mt mg:Nat}{X:Nat->Prop}{tl:Δ (Lit×iU)}{gl:Δ (Lit×pL)}(r:dH o w p mt mg X tl gl){tj:Γ}(H:x.size<=maxLen)(v:tj.size<=maxLen) :
 Calls prog 80 #[π (σ (Ad p 0)),θ x,θ tj] w λao w'=>alI w' tl (dD tl gl) x tj ao/\δ w.heap.size w w':=by
 have V:δ w.heap.size w (w.alloc (obF (π ν) ν 0 0 .nilFunc)):=(aj _ _).alloc (ae _) _;have s:=r.aU V;have F:=s.find v;have⟨s0,s1,s2,s3,s4,s5,s6,s7⟩:=eS r.jy;have hp:=aA r.jy;have N:=ak (az w (obF (π ν) ν 0 0 .nilFunc));have C:=ak r;have H1:=ak s;have A:=ak V;cases hl:fH tl (tk tj)with
 |none=>have HV:Hid (JN (dD tl gl) x tj=ν):=ak (by unfold JN dD;simp only;rw[jE,hl];rfl);simp only[hl]at F;have Z:=oC;go_in;go_wp2;have⟨q0,q1,q2⟩:=bN N.J;refine aE (by simp[results,results80,go_sem];rfl) rfl ?_;exact⟨⟨_,_,_,_,rfl,⟨⟨_,rfl⟩,⟨_,_,_,rfl⟩,.inl rfl⟩,.inl ⟨rfl,HV.J⟩⟩,A.J⟩
 |some a=>
  simp only[hl]at F;unfold iU.val at F;have Y:=mQ hl;have j:=s.tab _ Y;have D:=ak j;have d:Hid (JN (dD tl gl) x tj=if ct x rP then σ (JM (List.range (Λ a.cy)) (λ_=>.inl (ox 1)) a.told)else(fH (ik pL.told gl) (gk x tj)).map λg=>JM g.1 (λrow=>jq a.cy row g.2) a.told):=ak (by unfold JN dD;simp only;rw[jE,hl];rfl);have I:=ak hl;by_cases u:x=rP
  .have Pv:=ak (Jf j.jy j.Lc j.GQ.1 (pK a.cy))
   rw[u]at d;subst u;unfold rP;go_in;go_wp21;refine Pv.J.mono ?_;rintro av w1 ⟨aT,wv,lo,rfl,y,U,nX,P⟩;obtain⟨z,n,rfl⟩:=aS.slice y;rw[jZ]at y;have an:=U;obtain⟨e,f,rfl,-⟩:=an;have i:=(P.block _ (by simp)).trans N.J;have⟨q0,q1,q2⟩:=bN i;have z0:=jd i 0;have z1:=jd i 1;have z2:=jd i 2;have ll:w.heap.size<w1.heap.size:=aA i;have ap:=mq e f;have Z:=oC;have ac:Hid (∀W9,W9=((w1.setCell (Ad w.heap.size 0) (π (σ (Ad a.q 0)))).setCell (Ad w.heap.size 1) (ψ z (Λ a.cy) n)).setCell (Ad w.heap.size 2) (.func (.func e) #[] f)->(Ξ W9 (Ad w.heap.size 0)=σ (π (σ (Ad a.q 0)))/\Ξ W9 (Ad w.heap.size 1)=σ (ψ z (Λ a.cy) n)/\Ξ W9 (Ad w.heap.size 2)=σ (.func (.func e) #[] f))/\lR W9 (ψ z (Λ a.cy) n) (List.range (Λ a.cy))/\fN W9 lo (.func (.func e) #[] f) (pK a.cy) (λ_=>.inl (ox 1))/\δ w.heap.size w W9):=ak (by
    intro W9 c;have qY:(w.alloc (obF (π ν) ν 0 0 .nilFunc)).heap.size=w.heap.size+1:=by simp
    have TV:=ads y (by rw[jZ];exact D.J.c0) (ZB i (by simp) (by simp) (by simp));refine⟨bN (t:=176) (by rw[c];exact Fv i),aS.moves y TV (by rw[c];simp[World.setCell]) (λar _ hb=>by rw[c];exact yO hb),by rw[c];exact((U.set (by omega)).set (by omega)).set (by omega),?_⟩;rw[c];exact(((A.J.trans (P.mono (by omega))).setCell (ae _) _).setCell (ae _) _).setCell (ae _) _)
   go_wp2;have⟨W9,c⟩:=nm (((w1.setCell (Ad w.heap.size 0) (π (σ (Ad a.q 0)))).setCell (Ad w.heap.size 1) (ψ z (Λ a.cy) n)).setCell (Ad w.heap.size 2) (.func (.func e) #[] f));rw[<- c];have⟨⟨y0,y1,y2⟩,k3,k4,k5⟩:=ac.J W9 c;refine aE (by simp[results,results80,go_sem,y0,y1,y2];rfl) rfl ?_;have KP:=D.J.c0;have al:=D.J.GQ.1;refine⟨⟨_,_,_,_,rfl,⟨⟨_,rfl⟩,⟨_,_,_,rfl⟩,.inr ⟨_,_,rfl⟩⟩,.inr ⟨rfl,a,List.range (Λ a.cy),_,W9,lo,I.J,rfl,k3,k4,⟨ae _,λ_ _ _=>rfl⟩,λrow _ ai G=>by cases G;exact .inr (.inr rfl),by rw[jZ];exact KP,by rw[jZ];exact al,λax hs=>mD.mp hs,d.J.trans (aN (by decide))⟩⟩,k5⟩
  have jK:(x.toList==[97,100,109,105,110])=false:=(by rw[bX];cases he:ct x (bs [97,100,109,105,110])with|false=>rfl|true=>exact absurd (cD.mp he) u);have ag:ct x rP=false:=(by cases he:ct x rP with|false=>rfl|true=>exact absurd (cD.mp he) u);rw[ag,aH (by simp)]at d;have Q:=A.J.alloc (w:=w.alloc (obF (π ν) ν 0 0 .nilFunc)) (by simp) (obR ν 0 0 .nilFunc);have l:=s.ML H v;have m:=(C.J.aU Q).ML H v;have fM:=ak Q;have Z:=oC;cases hg:fH gl (gk x tj)with|none=>(rw[jE,hg]at d;simp only[hg]at l m;go_in;go_wp2;refine aE (by simp[results,results80,go_sem];rfl) rfl ?_;exact⟨⟨_,_,_,_,rfl,⟨⟨_,rfl⟩,⟨_,_,_,rfl⟩,.inl rfl⟩,.inl ⟨rfl,d.J⟩⟩,((aj _ _).alloc (ae _) _).alloc (by simp) _⟩)|some g=>rw[jE,hg]at d;simp only[hg]at l m;unfold pL.val at l m;have⟨u',t',hk,am,Hk,aC,Bv,b⟩:=C.J.gr _ (mQ hg);have O:(8:Nat)<=maxLen:=(by unfold maxLen;omega);obtain⟨-,rfl⟩:=N3 H v (ay am O) (ay Hk O) hk;obtain rfl:=AO C.J.keys Y Bv;have SD:=b.shr;have⟨sa,nZ,M⟩:=aS.slice SD;have QT:=b.work;obtain⟨e,f,K,-⟩:=QT;rw[M,K]at l m;have aa:=ak b;have ab:=ak M;have ad:=ak K;have ap:=mq e f;go_in;go_wp2;refine aE (by simp[results,results80,go_sem];rfl) rfl ?_;have E:∀o1 o2,δ w.heap.size w ((w.alloc o1).alloc o2):=λ_ _=>((aj _ _).alloc (ae _) _).alloc (by simp) _;have b:=aa.J;have R:=b.shr;rw[ab.J]at R;have L:=b.work;rw[ad.J]at L;exact⟨⟨_,_,_,_,rfl,⟨⟨_,rfl⟩,⟨_,_,_,rfl⟩,.inr ⟨_,_,rfl⟩⟩,.inr ⟨rfl,a,g.sh,_,g.a,g.lo,I.J,rfl,aS.aU R (E _ _) (ae _),L,b.kept.aU (E _ _),λrow hr ai G=>xL hr g.e b.fit.2.2.2.1 b.fit.2.2.2.2 G,b.fit.1,b.fit.2.1,b.fit.2.2.1,d.J⟩⟩,E _ _⟩
theorem Vh{cy:Δ bU}(d:Bj cy)(e:Λ l<=5)(j:∀a∈l,a<Λ cy):Bj (l.map λa=>cy.getD a default):=by
 refine⟨by rw[bk];exact e,λm f=>?_⟩;obtain⟨a,i,rfl⟩:=cP.mp f;have b:=j a i;have c:cy.getD a default=cy[a]:=by simp[List.getD,List.getElem?_eq_getElem b]
 rw[c];exact d.2 _ (ej b)
theorem Vi{cy:Δ bU}{ry:Δ (Δ aF)}(m:nB cy ry)(r:∀a∈l,a<Λ cy)(j:Δ aF->fE):nB (l.map λa=>cy.getD a default) (je j l ry):=by intro v f;unfold je at f;obtain⟨row,n,rfl⟩:=cP.mp f;have d:=m row (fU.mp n).1;refine⟨by rw[bk,bk],λs u k b c=>?_⟩;rw[bp]at b c;cases hj:l[s]? with|none=>rw[hj]at b;cases b|some a=>rw[hj]at b c;cases b;cases c;have e:=r a (aq hj);have i:a<Λ row:=(by rw[d.1];exact e);exact d.2 a _ _ (by simp[List.getD,List.getElem?_eq_getElem i]) (by simp[List.getD,List.getElem?_eq_getElem e])
theorem alJ{cy:Δ bU}{row:Δ aF}(c:NV cy row):pK cy row:=by refine⟨c.1,λf b k d e l=>?_⟩;have a:=(S.Am (c:=yJ b) (c.2 f b k d e).1 (c.2 f b k d e).2).2;rw[l]at a;have⟨i,m,n⟩:=b;cases i;{simp[yJ]at a;obtain⟨rfl,j⟩:=a;rcases j with rfl|rfl;{exact .inr (.inl rfl)};exact .inr (.inr rfl)};simp[yJ]at a;obtain⟨rfl,rfl⟩:=a;exact .inl rfl
theorem ag1{b:xY}{k:Nat}(n:Iz b)(j:b.bH=true\/b.kind=(k:Int)):acF k ⟨b.bH,b.n,b.s⟩:=by
 have⟨A,x,z,y,l⟩:=b;rcases n with⟨e,f,a,-⟩|⟨e,f⟩
 {simp only at e f a;subst e f a;exact⟨by unfold S.dK;simp,by unfold S.okB yJ;simp⟩}
 simp only at e f j;subst e;have j:x=(k:Int):=by simpa using j
 subst j;rcases f with⟨a,c,i⟩|⟨a,c,i,r⟩|⟨a,c,i⟩
 {subst i;exact⟨c,by unfold S.okB yJ;simp[a]⟩}
 .subst c
  refine⟨by unfold S.dK;simp,?_⟩;have v:l.data.toList.all S.Fj=true:=gQ.mpr (λm s=>by
   have:=r m s;unfold gM at this;unfold S.Fj;simp at this ⊢;omega)
  have u:S.IW l=true:=by unfold S.IW;rw[v];simp[i]
  show(if false=true then _ else if(k:Int)=0 then _ else if(k:Int)=1 then decide ((0:Int)=0)&&S.IW l else _)=true;rw[aH (by simp),aH (by omega),aN a,u];rfl
 subst i;refine⟨by rcases c with d|d<;>(rw[d];unfold S.dK;simp),?_⟩;unfold S.okB yJ;rcases c with d|d<;>simp[a,d]
def mB(o:zr)(w w':ω)(p mt mg:Nat)(X:Nat->Prop)(tl:Δ (Lit×iU))(res:(Nat×Nat)×vT)(r:Ending):Prop:=
 r=τ (χ #[ι κ res.1.1,ι κ res.1.2])/\∃Rz BI,dD Rz BI=res.2/\dH o w' p mt mg (λb=>X b\/zK mt mg Rz b) Rz BI/\bu (λb=>b<w.heap.size/\¬zK mt mg tl b) w w'/\∀b,zK mt mg Rz b->zK mt mg tl b\/w.heap.size<=b
section
variable {o:zr} {w w':ω} {p mt mg:Nat} {X:Nat->Prop} {tl:Δ (Lit×iU)} {gl:Δ (Lit×pL)}
theorem RA(a:δ w.heap.size w w'):bu (λb=>b<w.heap.size/\¬r b) w w':=⟨a.os,a.tape,a.output,a.size,λb c=>a.block b c.1⟩
theorem dH.same(c:dH o w p mt mg X tl gl)(d:δ w.heap.size w w')(e:Nat×Nat){i:Ending}(l:i=τ (χ #[ι κ e.1,ι κ e.2])):mB o w w' p mt mg X tl (e,dD tl gl) i:=by refine⟨l,tl,gl,rfl,c.stays ⟨d.size,λa j _=>d.block a j,λa b=>?_⟩ (λa f=>d.block a (c.pZ a (c.sub a f))) (λa b=>.inl b) (λa b=>?_),RA d,λa f=>.inl f⟩;{rcases b with b|b;{exact .inl b};exact .inl (c.sub a b)};rcases b with b|b;{exact aw (c.pZ a b) d.size};exact aw (c.pZ a (c.sub a b)) d.size
end
theorem Db(a:Γ):WideAt.IsKeyLit (tk a):=trivial
theorem Vj(b a:Γ):WideAt.IsKeyLit (gk b a):=trivial
section
variable {B:Type} {T:Δ (Lit×B)} {k:Lit}
theorem xN(a:fH T k=ν):o6 T k=T:=by unfold fH at a;have c:T.find? (λp=>p.1.sameKey k)=ν:=(by cases h2:T.find? (λp=>p.1.sameKey k)with|none=>rfl|some b=>rw[h2]at a;cases a);unfold o6;rw[List.filter_eq_self];intro b d;have:=vt.mp c b d;simp at this;simp[this]
theorem ag2{a:Lit×B}(b:a∈T)(c:a.1≠k):a∈o6 T k:=by unfold o6;rw[fU];refine⟨b,?_⟩;cases hs:a.1.sameKey k with|false=>rfl|true=>exact absurd (gj hs) c
theorem adt(d:WideAt.IsKeyLit k){a:Lit×B}(c:a∈o6 T k):a.1≠k:=λb=>by
 have:=(fU.mp c).2;rw[b,lJ d]at this
 cases this
theorem ag3{a:Lit×B}{b:B}(c:a∈o6 T k):a∈o7 T k b:=En.mpr (.inr c)
theorem WY{a:B}:(o7 T k a).length=(o6 T k).length+1:=Rj _ _
end
section
variable {o:zr} {w w':ω} {p mt mg:Nat} {X:Nat->Prop} {tl:Δ (Lit×iU)} {gl:Δ (Lit×pL)}
theorem mK.oD{T:Δ (Lit×υ)}(d:mK w v a T){c:Array υ}{t:TypeId}:w.heap[a]?≠σ (ξ c t s):=λb=>by
 obtain⟨i,f,e,-⟩:=d;rw[e]at b
 cases b
theorem EB.yU{t:iU}(e:EB o w X t){T:Δ (Lit×υ)}(f:mK w v a T){d:Nat}(i:mA t.q t.sv d):d≠a:=λb=>by
 subst b;rcases i with b|b
 . subst b;exact f.oD e.jy
 . rcases e.own.2 with⟨c,-⟩|⟨g,l,cur,c,-,j,-⟩
   . rw[c]at b;cases b
   . rw[c]at b;cases b;exact f.oD j
theorem dH.less(a:dH o w p mt mg X tl gl){f:Δ (Lit×pL)}(r:f.Sublist gl)(z:mK w' 239 mg (ik pL.val f))(s:w.heap.size<=w'.heap.size)(l:∀b,b<w.heap.size->b≠mg->w'.heap[b]?=w.heap[b]?):dH o w' p mt mg X tl f:=by
 have A:=a.sub mg (.inr (.inl rfl));have m:Gh w w' X X:=⟨s,λb i j=>l b i (λu=>by subst u;exact j A),λ_ e=>.inl e⟩;have n:∀c∈tl,∀b,mA c.2.q c.2.sv b->w'.heap[b]?=w.heap[b]?:=λc d b e=>l b (mA.inside (a.tab c d) e) ((a.tab c d).yU a.Ch e);have D:w'.heap[mt]?=w.heap[mt]?:=l mt a.Cg.lt a.ne;exact
  { jy:=(m.block p (aA a.jy) a.pX).trans a.jy
    Cg:=a.Cg.kept D
    Ch:=z
    ne:=a.ne
    tab:=λc d=>(a.tab c d).stays m (n c d _ (.inl rfl)) (λk C=>n c d k (.inr C))
    apart:=a.apart
    gr:=λc d=>by
     obtain⟨F,t,i,j,v,E,x,y⟩:=a.gr c (r.subset d);exact⟨F,t,i,j,v,E,x,y.stays m⟩
    bJ:=a.bJ
    sub:=a.sub
    pZ:=λb e=>aw (a.pZ b e) s
    pX:=a.pX
    few:=⟨a.few.1,ay r.length_le a.few.2⟩ }
theorem dH.lost(e:dH o w p mt mg X tl gl){d:Δ (Lit×pL)}(u:d.Sublist gl)(r:mK w' 239 mg (ik pL.val d))(c:bu (λb=>b<w.heap.size/\b≠mg) w w'){f:Nat×Nat}{j:Ending}(s:j=τ (χ #[ι κ f.1,ι κ f.2])):mB o w w' p mt mg X tl (f,dD tl d) j:=by have i:=e.less u r c.size (λb m n=>c.block b ⟨m,n⟩);refine⟨s,tl,d,rfl,i.stays ⟨ae _,λ_ _ _=>rfl,λb a=>a.elim .inl (λa=>.inl (e.sub b a))⟩ (λ_ _=>rfl) (λ_ a=>.inl a) (λb a=>a.elim (i.pZ b) (λa=>i.pZ b (e.sub b a))),⟨c.os,c.tape,c.output,c.size,λb a=>c.block b ⟨a.1,λl=>a.2 (.inr (.inl l))⟩⟩,λb a=>.inl a⟩
theorem dH.more(d:dH o w p mt mg X tl gl){t:Γ}(R:t.size<=8)(P:fH tl (tk t)=ν)(hl:Λ tl<4){q:Nat}{cv:υ}{cy:Δ bU}(K:mK w' 9 mt (ik iU.val (o7 tl (tk t) ⟨q,cv,ψ ν 0 0,[],cy,[]⟩)))(i:bu (λa=>a<w.heap.size/\a≠mt) w w')(Q:w.heap.size<=q)
 (z:w'.heap[q]?=σ (ξ #[cv,ψ ν 0 0,ι κ 0] 244 (0,0))) (F:eK w' cv cy) (G:jM (λa=>a<w.heap.size\/a=q) cv) (M:Bj cy) (D:0<Λ cy) {s:Ending} (n:s=τ (χ #[ι κ 0,ι κ 0])) :
 mB o w w' p mt mg X tl ((0,0),⟨o7 (ik iU.told tl) (tk t) (cy,[]),ik pL.told gl⟩) s:=by
 have x:=xN P;have L:=d.sub mt (.inl rfl);have A:∀a,zK mt mg (o7 tl (tk t) ⟨q,cv,ψ ν 0 0,[],cy,[]⟩) a->X a\/a=q:=λa c=>by
  rcases c with b|b|⟨f,e,c⟩
  . exact .inl (d.sub a (.inl b))
  . exact .inl (d.sub a (.inr (.inl b)))
  . rcases AE e with rfl|e
    . rcases c with b|b
      . exact .inr b
      . cases b
    . exact .inl (d.sub a (.inr (.inr ⟨f,o8 e,c⟩)))
 have m:∀a,(X a\/zK mt mg (o7 tl (tk t) ⟨q,cv,ψ ν 0 0,[],cy,[]⟩) a)->X a\/a=q:=λa c=>c.elim .inl (A a);have r:Gh w w' X (λa=>X a\/zK mt mg (o7 tl (tk t) ⟨q,cv,ψ ν 0 0,[],cy,[]⟩) a):=⟨i.size,λa j l=>i.block a ⟨j,λb=>by subst b;exact l L⟩,λa c=>(m a c).imp id (λb=>by omega)⟩;have v:∀f∈tl,∀a,mA f.2.q f.2.sv a->w'.heap[a]?=w.heap[a]?:=λf e a c=>i.block a ⟨mA.inside (d.tab f e) c,(d.tab f e).yU d.Cg c⟩;have O:w'.heap[mg]?=w.heap[mg]?:=i.block mg ⟨d.Ch.lt,λb=>d.ne b.symm⟩;have C:=aA z;refine⟨n,o7 tl (tk t) ⟨q,cv,ψ ν 0 0,[],cy,[]⟩,gl,?_,?_,⟨i.os,i.tape,i.output,i.size,λa c=>i.block a ⟨c.1,λb=>c.2 (.inl b)⟩⟩,λa c=>?_⟩;{unfold dD;rw[<- AB];rfl}
 .exact
   { jy:=(r.block p (aA d.jy) d.pX).trans d.jy
     Cg:=K
     Ch:=d.Ch.kept O
     ne:=d.ne
     tab:=λf e=>by
      rcases AE e with rfl|e
      . exact
         { jy:=z
           own:=⟨rfl,.inl ⟨rfl,rfl⟩⟩
           off:=by simp[Value.ownBlock]
           Lc:=F
           uB:=⟨rfl,λad u ac j=>by simp at j⟩
           OW:=G.mono (λa c=>(m a c).imp (d.pZ a) id)
           MA:=λu U=>by simp at U
           chk:=oi.nil
           fit:=λs n=>by simp at n
           few:=by simp
           GQ:=M
           c0:=D }
      . have e:=o8 e
        exact(d.tab f e).stays r (v f e _ (.inl rfl)) (λk N=>v f e k (.inr N))
     apart:=Lg (λab a E k j l=>E k l j) d.apart (λaa V a j l=>by
      have y:=mA.inside (d.tab aa (o8 V)) l;rcases j with b|b
      . simp at b;omega
      . cases b)
     gr:=λf e=>by
      obtain⟨u,Y,j,l,y,Z,H,I⟩:=d.gr f e;exact⟨u,Y,j,l,y,Z,ag3 (by rw[x];exact H),I.stays r⟩
     bJ:=λf e=>by
      rcases AE e with rfl|e
      . exact⟨t,rfl,R⟩
      . exact d.bJ f (o8 e)
     sub:=λa c=>.inr c
     pZ:=λa c=>by
      rcases m a c with b|b
      . exact aw (d.pZ a b) i.size
      . rw[b];exact C
     pX:=λc=>by
      rcases m p c with b|b
      . exact d.pX b
      . have:=aA d.jy;omega
     few:=⟨by rw[WY,x];omega,d.few.2⟩ }
 rcases c with b|b|⟨f,e,c⟩;{exact .inl (.inl b)};{exact .inl (.inr (.inl b))};rcases AE e with rfl|e;{rcases c with b|b;{exact .inr (by rw[b];exact Q)};cases b};exact .inl (.inr (.inr ⟨f,o8 e,c⟩))
theorem dH.again(c:dH o w p mt mg X tl gl):dH o w p mt mg (λb=>X b\/zK mt mg tl b) tl gl:=
 c.stays ⟨ae _,λ_ _ _=>rfl,λb a=>a.elim .inl (λa=>.inl (c.sub b a))⟩ (λ_ _=>rfl) (λ_ a=>.inl a) (λb a=>a.elim (c.pZ b) (λa=>c.pZ b (c.sub b a)))
end
theorem Hl{w w1:ω}{t:TypeId}(c:δ w.heap.size w w1)(d:w.heap.size<=v)(e:w1.heap[v]?=σ (ξ #[m,i] t (0,0)))(a b:υ)(o:Obj):((((w1.setCell (Ad v 0) a).setCell (Ad v 1) b).alloc o).drew.cell? (Ad v 0)=σ a/\(((w1.setCell (Ad v 0) a).setCell (Ad v 1) b).alloc o).drew.cell? (Ad v 1)=σ b)/\δ w.heap.size w (((w1.setCell (Ad v 0) a).setCell (Ad v 1) b).alloc o).drew:=by refine⟨apI e o,aP (((c.setCell d _).setCell d _).alloc ?_ _)⟩;simpa[World.setCell]using c.size
theorem ie{w w1:ω}{t:TypeId}(e:δ w.heap.size w w1)(c:w.heap.size<=v)(d:w1.heap[v]?=σ (ξ #[m,i] t (0,0)))(a b:υ):(((w1.setCell (Ad v 0) a).setCell (Ad v 1) b).cell? (Ad v 0)=σ a/\((w1.setCell (Ad v 0) a).setCell (Ad v 1) b).cell? (Ad v 1)=σ b)/\δ w.heap.size w ((w1.setCell (Ad v 0) a).setCell (Ad v 1) b):=
 ⟨bQ (t:=t) (bq _ _ 1 _ _ _ (bq _ _ 0 _ _ _ d)),(e.setCell c _).setCell c _⟩
theorem Vr{o:zr}{w:ω}{p mt mg:Nat}{X:Nat->Prop}{tl:Δ (Lit×iU)}{gl:Δ (Lit×pL)}(j:dH o w p mt mg X tl gl){a t:Nm}(hu:nF a)(ht:nF t) :
 Calls prog 264 #[χ #[θ a.1,ι κ a.2,θ t.1,ι κ t.2],π (σ ⟨p,0,ν⟩)] w λag w'=>mB o w w' p mt mg X tl (uE (dD tl gl) a t) ag:=by
 have V:(8:Nat)<=maxLen:=by unfold maxLen;omega
 have G:=ay hu.1 V;have C:=ay ht.1 V;have⟨s0,s1,s2,s3,s4,s5,s6,s7⟩:=eS j.jy;have hp:=aA j.jy;have⟨W,m⟩:=nm (((w.alloc (ξ #[θ a.1,ι κ a.2,θ t.1,ι κ t.2] 167)).alloc (nP 0 0)).alloc (obX a.1 t.1));have pS:=as2 m;have M:W.heap.size=w.heap.size+3:=by rw[m];simp
 have v:W.heap[w.heap.size]?=σ (ξ #[θ a.1,ι κ a.2,θ t.1,ι κ t.2] 167 (0,0))/\W.heap[w.heap.size+1]?=σ (nP 0 0)/\W.heap[w.heap.size+2]?=σ (obX a.1 t.1):=by rw[m];exact Az w _ _ _
 have N:=ak (λwr (b:δ W.heap.size W wr)=>(show dH o wr p mt mg X tl gl/\δ w.heap.size w wr/\wr.heap[w.heap.size]?=σ (ξ #[θ a.1,ι κ a.2,θ t.1,ι κ t.2] 167 (0,0))/\wr.heap[w.heap.size+1]?=σ (nP 0 0)/\wr.heap[w.heap.size+1+1]?=σ (obX a.1 t.1)from by
  have Y:=pS.trans (b.mono (by omega));exact⟨j.aU Y,Y,(b.block _ (by omega)).trans v.1,(b.block _ (by omega)).trans v.2.1,(b.block _ (by omega)).trans v.2.2⟩))
 have O:=ak m;obtain⟨l,-,z,e,A⟩:=N.J W (aj _ _);have⟨c0,c1,c2,c3⟩:=kJ z;have⟨k0,k1⟩:=bQ A;have⟨f0,f1⟩:=bQ e;have z0:=jd e 0;have z1:=jd e 1;have fM:=ak e;have⟨e0,e1,e2,e3,e4,e5,e6,e7⟩:=eS l.jy;have am:=aA l.jy;have EL:=aA z;have d:=aA e;have al:=aA A;have r:=(l.aU (aP (aj _ _))).ML G C;have s:=(l.aU (aP ((aj _ _).alloc (ae _) (obR ν 0 0 .nilFunc)))).ML G C;have ar:=oC;cases hg:fH gl (gk a.1 t.1)with
 |none=>simp only[hg]at r s;have BA:Hid (uE (dD tl gl) a t=((5,a.2),dD tl gl)):=ak (by unfold uE dD;simp only;rw[jE,hg];rfl);clear m v l z e A hg M;go_in;go_wp2;rw[<- O.J];go_region;all_goals (try go_wp2);have⟨⟨E,F⟩,d2⟩:=Hl pS (dt _) fM.J (ι κ 5) (ι κ a.2) (obR ν 0 0 .nilFunc);refine aE (by simp[results,results264,go_sem,E,F];rfl) rfl ?_;rw[BA.J];exact j.same d2 (5,a.2) rfl
 |some g=>
  simp only[hg]at r s;unfold pL.val at r s;have⟨u',t',u,ao,an,av,Bv,K⟩:=j.gr _ (mQ hg);have⟨sa,nZ,U⟩:=aS.slice K.shr;have QT:=K.work;obtain⟨H,I,Q,-⟩:=QT;rw[U,Q]at r s;have ap:=mq H I;have HG:Hid (uE (dD tl gl) a t=((0,0),dD tl (o6 gl (gk a.1 t.1)))):=ak (by
   unfold uE dD;simp only;rw[jE,hg,xG];rfl)
  have P:=ak (aP ((aj W.heap.size W).alloc (ae _) (obR sa (Λ g.sh) nZ (.func (.func H) #[] I))));clear m v l z e A hg M K u Bv U Q;go_in;go_wp2;rw[<- O.J];go_region;all_goals (try go_wp2);have⟨R,ym⟩:=nm ((W.alloc (obR sa (Λ g.sh) nZ (.func (.func H) #[] I))).drew);rw[<- ym]at P ⊢;obtain⟨L,ac,-,x,j6⟩:=N.J R P.J;have y:=L.aU (aP (aj _ _));have⟨w5,Vk,Z,c⟩:=y.Ch.del Tryz.uC underlying72 (Jw G C) 0;rw[xG]at Z;have D:w.heap.size+1≠mg:=λf=>y.Ch.oD (by rw[<- f];exact x);have n:=(c.block (w.heap.size+1) (aA x) (λf=>D (bh f))).trans x;have⟨g0,g1⟩:=bQ n;have y0:=jd n 0;have y1:=jd n 1;have⟨m0,m1,m2,m3,m4,m5,m6,m7⟩:=eS L.jy;have⟨n0,n1⟩:=bQ j6;have ab:=ak D;have ai:=ak y.Ch.lt;have aa:=ak n;clear D ym L y n x j6 e0 e1 e2 e3 e4 e5 e6 e7 c0 c1 c2 c3 k0 k1 f0 f1 z0 z1 r s;go_region;all_goals (try go_wp2);have⟨E,F⟩:=bQ (bq _ _ 1 _ _ (ι κ 0) (bq _ _ 0 _ _ (ι κ 0) aa.J));refine aE (by simp[results,results264,go_sem,E,F];rfl) rfl ?_;rw[HG.J];have d:=ac;have c:=c;have ad:bu (λi=>i<w.heap.size/\i≠mg) w w5:=bu.trans (b:=R.drew) ⟨d.os,d.tape,d.output,d.size,λi b=>d.block i b.1⟩ ⟨c.os,c.tape,c.output,c.size,λi b=>c.block i (aw b.1 d.size) (λf=>b.2 (bh f))⟩;have jK:mg≠w.heap.size+1:=λf=>ab.J f.symm;exact j.lost (f:=(0,0)) uk (Z.kept ((aL _ _ _ _ jK).trans (aL _ _ _ _ jK))) ((ad.setCell (λu=>by have:=u.1;simp at this;omega) _).setCell (λu=>by have:=u.1;simp at this;omega) _) rfl
theorem Vs{o:zr}{w:ω}{p mt mg:Nat}{X:Nat->Prop}{tl:Δ (Lit×iU)}{gl:Δ (Lit×pL)}(h:dH o w p mt mg X tl gl){t:Nm}(ht:nF t){cy:Δ (Nm×Nat)}(KP:cy≠[])(a0:∀a∈cy,nF a.1/\a.2<=2)(uq:Λ cy<=302)(M:aS w 3 m (Λ cy) (Xe cy)) :
 Calls prog 266 #[χ #[θ t.1,ι κ t.2,m],π (σ (Ad p 0))] w λbx w'=>mB o w w' p mt mg X tl (qy (dD tl gl) t cy) bx:=by
 have Hk:t.1.size<=maxLen:=by have:=ht.1;unfold maxLen;omega
 obtain⟨O,G,rfl⟩:=aS.slice M;have⟨W,L⟩:=nm ((w.alloc (aaJ t.1 t.2 O (Λ cy) G)).alloc (nP 0 0));have pS:=zS L;have ES:W.heap.size=w.heap.size+2:=by rw[L];simp
 have mo:W.heap[w.heap.size]?=σ (aaJ t.1 t.2 O (Λ cy) G)/\W.heap[w.heap.size+1]?=σ (nP 0 0):=(by rw[L];have U:=az (w.alloc (aaJ t.1 t.2 O (Λ cy) G)) (nP 0 0);rw[show(w.alloc (aaJ t.1 t.2 O (Λ cy) G)).heap.size=w.heap.size+1 by simp]at U;exact⟨(fY _ _ (by simp)).trans (az w _),U⟩)
 have HB:=ak (λwr (f:δ W.heap.size W wr)=>(show dH o wr p mt mg X tl gl/\δ w.heap.size w wr/\wr.heap[w.heap.size]?=σ (aaJ t.1 t.2 O (Λ cy) G)/\wr.heap[w.heap.size+1]?=σ (nP 0 0)/\aS wr 3 (ψ O (Λ cy) G) (Λ cy) (Xe cy)from by
  have H:=pS.trans (f.mono (by omega));exact⟨h.aU H,H,(f.block _ (by omega)).trans mo.1,(f.block _ (by omega)).trans mo.2,aS.aU M H (ae _)⟩))
 have HW:=ak L;obtain⟨I,-,x,e,-⟩:=HB.J W (aj _ _);have⟨c0,c1,c2⟩:=bN x;have⟨f0,f1⟩:=bQ e;have z0:=jd e 0;have z1:=jd e 1;have⟨e0,e1,U,e3,e4,e5,e6,e7⟩:=eS I.jy;have b1:=aA I.jy;have EL:=aA x;have BT:=aA e;have Oo:=I.find Hk;have sd:=(I.aU (aP (aj _ _))).find Hk;have E:=ak h;have fM:=ak e;have oZ:=ak pS;cases hg:fH tl (tk t.1)with
 |some tc=>simp only[hg]at Oo sd;unfold iU.val at Oo sd;have l:Hid (qy (dD tl gl) t cy=((6,t.2),dD tl gl)):=ak (by unfold qy dD;simp only;rw[jE,hg];rfl);clear h L pS mo I x e hg ES M;go_in;go_wp2;rw[<- HW.J];go_region;all_goals (try go_wp2);have⟨⟨y,z⟩,D⟩:=ie (w1:=W) oZ.J (dt _) fM.J (ι κ 6) (ι κ t.2);refine aE (by simp[results,results266,go_sem,y,z];rfl) rfl ?_;rw[l.J];exact E.J.same (aP D) (6,t.2) rfl
 |none=>
  simp only[hg]at Oo sd;clear h L pS mo I x e ES M;go_in;go_wp2;rw[<- HW.J];have ao:Hid (qy (dD tl gl) t cy=match xM cy []with|.inl c=>((6,c),dD tl gl)|.inr am=>if 4<=Λ tl\/5<Λ am then((8,0),dD tl gl)else((0,0),⟨o7 (ik iU.told tl) (tk t.1) (am,[]),ik pL.told gl⟩)):=ak (by
   unfold qy dD;simp only;rw[jE,hg]
   cases xM cy []with
   |inl c=>rfl
   |inr am=>simp[ik])
  have HG:=ak hg;have a3:=ak a0;have⟨i0,px,lB,ll,kV⟩:=gq Tryz.Rg;clear hg a0;go_region;all_goals
   (try go_wp2);have a4:Hid (δ W.heap.size W W.drew):=ak (aP (aj _ _));clear Oo sd c0 c1 c2 f0 f1 z0 z1 e0 e1 U e3 e4 e5 e6 e7;go_loopw[5,24] (λm a wr=>∃(d:Nat) (b:Δ bU),d<=Λ cy/\Hid (Λ b=d)/\a=ι κ d/\Hid (xM cy []=xM (cy.drop d) b)/\Hid (∀C∈b,C.1.size<=8/\C.2<=2)/\Hid (wr.ownsRow W.heap.size 241 2 m (Λ b) (b.flatMap fP))/\Hid (δ W.heap.size W wr)) (λ_ a _=>Λ cy - (intOf a).toNat);(case atStart=>exact⟨0,[],aB _,ak rfl,rfl,ak rfl,ak (λC j=>by simp at j),ak ⟨rfl,.inl ⟨rfl,rfl⟩⟩,a4⟩);case round=>
    obtain⟨d,b,hi,P,rfl,Wt,ap,ai,ui⟩:=hrel;have⟨K,oX,x,e,La⟩:=HB.J wr ui.J;by_cases cK:d<Λ cy
    .have gY:=aX.2 cK;obtain⟨a,N⟩:∃a,cy[d]?=σ a:=⟨_,af cK⟩;have an:=ak (a3.J a (aq N));have Uy:cy.drop d=a::cy.drop (d+1):=(by rw[cL cK];congr 1;exact(ah.mp N).2);have RL:Hid (xM cy []=if 0<=mI b a.1.1 then .inl a.1.2 else xM (cy.drop (d+1)) (b++[(a.1.1,a.2)])):=ak (by rw[Wt.J,Uy];rfl);obtain⟨vg,vo,MO,he,-,b4,j⟩:=aS.at La (by omega);cases he;have x0:Ξ wr (Ad vg (vo+d*3))=σ (θ a.1.1):=j (d*3) _ (cV ZH 3 (λ_=>rfl) cy N (j:=0) (by decide));have x1:Ξ wr (Ad vg (vo+d*3+1))=σ (ι κ a.1.2):=j (d*3+1) _ (cV ZH 3 (λ_=>rfl) cy N (j:=1) (by decide));have x2:Ξ wr (Ad vg (vo+d*3+2))=σ (ι κ a.2):=j (d*3+2) _ (cV ZH 3 (λ_=>rfl) cy N (j:=2) (by decide));have⟨W1,yQ⟩:=nm (wr.alloc (ξ #[θ a.1.1,ι κ a.1.2,ι κ a.2] 213));have lu:=Br yQ;have mL:W1.heap[wr.heap.size]?=σ (ξ #[θ a.1.1,ι κ a.1.2,ι κ a.2] 213 (0,0)):=(by rw[yQ];exact az wr _);have r:=ai.J;obtain⟨s,u,rfl,-,-⟩:=cR r;have ZN:=cO r lu;have a6:=ak (Hf b (ψ s (Λ b) u) a.1.1 W1 (aS.dE ZN) (by rw[P.J];omega));have a8:=ak ZN;have DL:=ak mL;have RM:=ak (ui.J.trans (lu.mono ui.J.size));have Ko:=ak yQ;clear K oX x e La j yQ lu mL r ZN N Uy;go_wp21;rw[<- Ko.J];refine a6.J.mono ?_;rintro i w2 ⟨rfl,e⟩;have j6:=(e.block _ (aA DL.J)).trans DL.J;have⟨k0,k1,k2⟩:=bN j6;have Z:=RM.J.trans (e.mono RM.J.size);have ba:=Z.size;have LG:=ak (cO a8.J e);have oY:=aA j6;obtain⟨wT,Gk,-,Q,-⟩:=HB.J w2 Z;have⟨f0,f1⟩:=bQ Q;have z0:=jd Q 0;have z1:=jd Q 1;have Jo:=ak Q;have DG:=ak Gk;have J0:=ak Z;clear e j6 Z wT Gk Q x0 x1 x2;by_cases Pe:0<=mI b a.1.1;{have bc:(mI b a.1.1>=0):=Pe;have l:Hid (qy (dD tl gl) t cy=((6,a.1.2),dD tl gl)):=ak (by rw[ao.J,RL.J,aN Pe]);go_wp2;have⟨⟨y,z⟩,D⟩:=ie DG.J (dt _) Jo.J (ι κ 6) (ι κ a.1.2);refine aE (by simp[results,results266,go_sem,y,z];rfl) rfl ?_;rw[l.J];exact E.J.same D (6,a.1.2) rfl}
     have bc:¬(mI b a.1.1>=0):=Pe
     have av:Hid (xM cy []=xM (cy.drop (d+1)) (b++[(a.1.1,a.2)])):=ak (by rw[RL.J,aH Pe]);have FR:=ak (LG.J.alloc (obI a.1.1 a.2));have vB:=ak (World.news_of_block (w:=w2.alloc (obI a.1.1 a.2)) (B:=w2.heap.size) (az w2 (obI a.1.1 a.2)));have XG:Hid (Λ b+1<=maxLen):=ak (by rw[P.J];unfold maxLen;omega);have a7:Hid ((Λ b+1)*24<=140737488355328):=ak (by rw[P.J];omega);have Sp:Hid (W.heap.size<=(w2.alloc (obI a.1.1 a.2)).heap.size):=ak (by simp;omega);go_wp2_with(at_builtin;refine ef _ rfl _ _ 181 rfl W.heap.size 241 i0 _ 2 24 underlying181 px lB ll kV rfl (by decide) (ψ s (Λ b) u) (Λ b) (b.flatMap fP) rfl FR.J (Ad w2.heap.size 0) 1 1 (fP (a.1.1,a.2)) rfl rfl vB.J (WQ _) XG.J a7.J Sp.J ?_);intro v' w3 oN kH _;have TC:Hid (w3.ownsRow W.heap.size 241 2 v' (b++[(a.1.1,a.2)]).length ((b++[(a.1.1,a.2)]).flatMap fP)):=ak (by rw[au,cX,lP];exact oN);have r7:Hid (δ W.heap.size W w3):=ak (((J0.J.alloc ba _)).grown kH Sp.J (λk V=>(FR.J.lt k V).1));have ax:Hid ((b++[(a.1.1,a.2)]).length=d+1):=ak (by rw[au,P.J];rfl);have aC:Hid (∀C∈b++[(a.1.1,a.2)],C.1.size<=8/\C.2<=2):=ak (λC j=>by
      rw[bA,bj]at j;rcases j with j|rfl
      . exact ap.J C j
      . exact⟨an.J.1.1,an.J.2⟩)
     clear oN kH;go_wp2
     first
     |exact⟨⟨d+1,_,by omega,ax,by go_num,av,aC,TC,r7⟩,by simp[intOf];omega⟩
     | (go_roundw
        case rel=>exact⟨d+1,_,by omega,ax,by go_num,av,aC,TC,r7⟩
        case measure=>simp[intOf];omega)
    obtain rfl:d=Λ cy:=(by omega);have l:Hid (qy (dD tl gl) t cy=if 4<=Λ tl\/5<Λ b then((8,0),dD tl gl)else((0,0),⟨o7 (ik iU.told tl) (tk t.1) (b,[]),ik pL.told gl⟩)):=ak (by rw[ao.J,Wt.J,lZ];rfl);have Gt:(ik iU.val tl).length=Λ tl:=(by unfold ik;rw[bk]);have al:=λty=>K.Cg.len underlying71 ty;rw[Gt]at al;have bz:=al 3;have⟨e0,e1,U,e3,e4,e5,e6,e7⟩:=eS K.jy;have⟨c0,c1,c2⟩:=bN x;have⟨f0,f1⟩:=bQ e;have z0:=jd e 0;have z1:=jd e 1;have r:=ai.J;obtain⟨s,u,Yp,b0,-⟩:=cR r;have ar:=ak K;have F:=ak e;have ag:=ak oX;have b2:=aA K.jy;have b3:=aA x;have bH:=aA e;subst Yp;clear K oX x e La al r;by_cases hA:4<=Λ tl;{have bd:((Λ tl:Nat):Int)>=4:=(by omega);rw[aN (.inl hA)]at l;go_wp2;have⟨⟨y,z⟩,D⟩:=ie ag.J (dt _) F.J (ι κ 8) (ι κ 0);refine aE (by simp[results,results266,go_sem,y,z];rfl) rfl ?_;rw[l.J];exact E.J.same D (8,0) rfl}
    have bd:¬((Λ tl:Nat):Int)>=4:=(by omega);by_cases hC:5<Λ b;{have be:((Λ b:Nat):Int)>5:=(by omega);rw[aN (.inr hC)]at l;go_wp2;have⟨⟨y,z⟩,D⟩:=ie ag.J (dt _) F.J (ι κ 8) (ι κ 0);refine aE (by simp[results,results266,go_sem,y,z];rfl) rfl ?_;rw[l.J];exact E.J.same D (8,0) rfl}
    have be:¬((Λ b:Nat):Int)>5:=(by omega);rw[aH (by omega)]at l;have⟨WU,ab⟩:=nm ((wr.alloc (ξ #[ψ s (Λ b) u,ψ ν 0 0,ι κ 0] 244)).drew);have n:δ wr.heap.size wr WU:=(by rw[ab];exact aP ((aj _ _).alloc (ae _) _));have ad:WU.heap[wr.heap.size]?=σ (ξ #[ψ s (Λ b) u,ψ ν 0 0,ι κ 0] 244 (0,0)):=(by rw[ab];exact az wr _);have aa:=ar.J.aU n;have⟨Y,bt,hM,v⟩:=aa.Cg.put Tryz.N0 underlying71 (UZ Hk) (by rw[Gt];omega) (π (σ (Ad wr.heap.size 0)));have ac:=(n.block _ (aA F.J)).trans F.J;have YC:w.heap.size+1≠mt:=λi=>aa.Cg.oD (by rw[<- i];exact ac);have a1:wr.heap.size≠mt:=λi=>aa.Cg.oD (by rw[<- i];exact ad);have R:=(v.block (w.heap.size+1) (aA ac) (λi=>YC (bh i))).trans ac;have a2:=(v.block wr.heap.size (aA ad) (λi=>a1 (bh i))).trans ad;have⟨g0,g1⟩:=bQ R;have y0:=jd R 0;have y1:=jd R 1;have bb:0<Λ b:=(by rw[P.J];exact j9.mpr KP);have r:=ai.J;have A:=ag.J;have UU:jM (λc=>c<w.heap.size\/c=wr.heap.size\/c=mt\/c=w.heap.size+1) (ψ s (Λ b) u):=λa9 b5 a M hm=>by
     have H:=r.lt a9.block (by rw[M];rfl);have h2:=ar.J.Cg.lt;have h3:=E.J.Cg.lt;have h4:=aA F.J;have h5:=oZ.J.size;rcases hm with i|i|i|i
     . omega
     . omega
     . omega
     . have:=aA fM.J;omega
    have yr:Hid (∀W9,W9=(Y.setCell (Ad (w.heap.size+1) 0) (ι κ 0)).setCell (Ad (w.heap.size+1) 1) (ι κ 0)->mB o w W9 p mt mg X tl (qy (dD tl gl) t cy) (τ (χ #[ι κ 0,ι κ 0]))):=ak (by
     intro W9 e9;have bv:W9.heap.size=Y.heap.size:=by rw[e9];simp[World.setCell]
     have Vp:∀c,c≠w.heap.size+1->W9.heap[c]?=Y.heap[c]?:=λc f=>by rw[e9];exact(aL _ _ _ _ f).trans (aL _ _ _ _ f)
     have bg:bu (λc=>c<w.heap.size/\c≠mt) w Y:=bu.trans (b:=WU) ⟨n.os.trans A.os,n.tape.trans A.tape,n.output.trans A.output,ay A.size n.size,λc f=>(n.block c (aw f.1 A.size)).trans (A.block c f.1)⟩ ⟨v.os,v.tape,v.output,v.size,λc f=>v.block c (aw f.1 (ay A.size n.size)) (λi=>f.2 (bh i))⟩;have bi:bu (λc=>c<w.heap.size/\c≠mt) w W9:=by rw[e9];exact(bg.setCell (λV=>by have:=V.1;simp at this;omega) _).setCell (λV=>by have:=V.1;simp at this;omega) _
     have bl:wr.heap.size≠w.heap.size+1:=by have:=aA F.J;omega
     rw[l.J];refine E.J.more ht.1 HG.J (by omega) (q:=wr.heap.size) (cv:=ψ s (Λ b) u) (cy:=b) ?_ bi A.size ((Vp _ bl).trans a2) ?_ (UU.mono (λc f=>f.imp id .inl)) ⟨by omega,ap.J⟩ bb rfl
     . have aT:=hM.kept (Vp mt YC.symm)
       rw[show(Value.pointer (σ (Ad wr.heap.size 0)))=iU.val ⟨wr.heap.size,ψ s (Λ b) u,ψ ν 0 0,[],b,[]⟩from rfl,AB]at aT;exact aT
     . have YM:eK wr (ψ s (Λ b) u) b:=aS.dE r
       have bn:=YM.aU n (ae _);have bo:eK Y (ψ s (Λ b) u) b:=aS.moves (M:=λc=>c=mt) bn (UU.mono (λc f=>.inr (.inr (.inl f)))) v.size (λc H h2=>v.block c H (λi=>h2 (bh i)));exact aS.moves (M:=λc=>c=w.heap.size+1) bo (UU.mono (λc f=>.inr (.inr (.inr f)))) (by rw[bv];exact ae _) (λc _ h2=>Vp c h2))
    have a5:=ak R;rw[ab]at bt;clear ab n ad aa hM v ac YC a1 R a2 r A UU;go_wp2;go_region;all_goals (try go_wp2);have⟨y,z⟩:=bQ (bq _ _ 1 _ _ (ι κ 0) (bq _ _ 0 _ _ (ι κ 0) a5.J));refine aE (by simp[results,results266,go_sem,y,z];rfl) rfl ?_;exact yr.J _ rfl
theorem adu{B c:Type}(a:B->c)(T:Δ (Lit×B))(k:Lit)(b:B):wL (ik a T) k (a b)=ik a (wL T k b):=by unfold wL ik;rw[iL,iL];apply fT;intro d _;simp only[Function.comp];split<;>rfl
theorem AU{B:Type}{T:Δ (Lit×B)}{k:Lit}(j:WideAt.IsKeyLit k){d:B}{b:Lit×B}(i:b∈wL T k d):(b=(k,d)/\∃f,(k,f)∈T)\/(b∈T/\b.1≠k):=by obtain⟨l,e,rfl⟩:=cP.mp i;split;{rename_i c;have a:=gj c;exact .inl ⟨by rw[a],l.2,by rw[<- a];exact e⟩};rename_i c;exact .inr ⟨e,λa=>c (by rw[a];exact lJ j)⟩
section
variable {o:zr} {w w1 w':ω} {p mt mg:Nat} {X X2:Nat->Prop} {tl:Δ (Lit×iU)} {gl:Δ (Lit×pL)}
theorem dH.shrink(b:dH o w p mt mg X tl gl)(d:∀a,X2 a->X a)(r:∀a,zK mt mg tl a->X2 a):dH o w p mt mg X2 tl gl where
 jy:=b.jy
 Cg:=b.Cg
 Ch:=b.Ch
 ne:=b.ne
 tab:=λf e=>(b.tab f e).stays ⟨ae _,λ_ _ _=>rfl,λa c=>.inl (d a c)⟩ rfl (λ_ _=>rfl)
 apart:=b.apart
 gr:=λf e=>by
  obtain⟨u,t,i,j,l,s,m,n⟩:=b.gr f e;exact⟨u,t,i,j,l,s,m,n.stays ⟨ae _,λ_ _ _=>rfl,λa c=>.inl (d a c)⟩⟩
 bJ:=b.bJ
 sub:=r
 pZ:=λa c=>b.pZ a (d a c)
 pX:=λc=>b.pX (d p c)
 few:=b.few
theorem RD{f:Type}{e:f->f->Prop}(m:∀i j,e i j->e j i):∀{T:Δ f},T.Pairwise e->∀{b c:f},b∈T->c∈T->b≠c->e b c
 |[],_,b,c,a,_,_=>by simp at a
 |z::r,h,b,c,a,d,jK=>by
   obtain⟨l,n⟩:=bE.mp h;rw[bV]at a d;rcases a with rfl|a<;>rcases d with rfl|d
   . exact absurd rfl jK
   . exact l c d
   . exact m _ _ (l b a)
   . exact RD m n a d jK
theorem dH.loaded(e:dH o w p mt mg X tl gl){t:Γ}{j:iU}(z:(tk t,j)∈tl){s:Δ (Δ (Δ aF))}{new:Δ (Δ aF)}(f:sx X w w' j.q 0 j.cy j.cv j.sv m n s c)(hN:c=Λ s.flatten)(KR:oi o.seg s)(F5:s.flatten=j.Cs.flatten++new)(BG:nB j.cy new)(al:Λ s.flatten<=64) :
 dH o w' p mt mg (λa=>X a\/zK mt mg (wL tl (tk t) { j with sv:=m,vs:=n,Cs:=s }) a) (wL tl (tk t) { j with sv:=m,vs:=n,Cs:=s }) gl/\bu (λa=>a<w.heap.size/\¬zK mt mg tl a) w w'/\∀a,zK mt mg (wL tl (tk t) { j with sv:=m,vs:=n,Cs:=s }) a->zK mt mg tl a\/w.heap.size<=a:=by
 have I:=e.keys;have x:=e.tab _ z;have Z:∀a,mA j.q j.sv a->zK mt mg tl a:=λa d=>.inr (.inr ⟨_,z,d⟩);have aa:∀a,mA j.q m a->mA j.q j.sv a\/w.heap.size<=a:=λa d=>by
  rcases d with b|b
  . exact .inl (.inl b)
  . exact(f.row a b).imp .inr id
 have eo:∀a,zK mt mg (wL tl (tk t) { j with sv:=m,vs:=n,Cs:=s }) a->zK mt mg tl a\/w.heap.size<=a:=λa d=>by
  rcases d with b|b|⟨l,i,d⟩
  . exact .inl (.inl b)
  . exact .inl (.inr (.inl b))
  . rcases AU (Db t) i with⟨rfl,-⟩|⟨i,-⟩
    . exact(aa a d).imp (Z a) id
    . exact .inl (.inr (.inr ⟨l,i,d⟩))
 have Y:∀a,(X a\/zK mt mg (wL tl (tk t) { j with sv:=m,vs:=n,Cs:=s }) a)->X a\/w.heap.size<=a:=λa d=>d.elim .inl (λd=>(eo a d).imp (e.sub a) id);have Q:Gh w w' X (λa=>X a\/zK mt mg (wL tl (tk t) { j with sv:=m,vs:=n,Cs:=s }) a):=⟨f.keep.size,λa u r=>f.keep.block a ⟨u,λv=>r (e.sub a (Z a v))⟩,Y⟩;have ac:∀l∈tl,l.1≠tk t->∀a,mA l.2.q l.2.sv a->w'.heap[a]?=w.heap[a]?:=λl i P a d=>f.keep.block a ⟨mA.inside (e.tab l i) d,λv=>RD (λE a Mv k u r=>Mv k r u) e.apart i z (λb=>P (by rw[b])) a d v⟩;have YJ:ik iU.val (wL tl (tk t) { j with sv:=m,vs:=n,Cs:=s })=ik iU.val tl:=(by unfold ik wL;rw[iL];apply fT;intro l i;simp only[Function.comp];split;{rename_i hs;have b:=gj hs;have C:l.2=j:=AO I (k:=tk t) (by rw[<- b];exact i) z;rw[<- C];rfl};rfl);have ad:∀a,mA j.q j.sv a->a≠mt/\a≠mg:=λa d=>⟨x.yU e.Cg d,x.yU e.Ch d⟩;refine⟨?_,⟨f.keep.os,f.keep.tape,f.keep.output,f.keep.size,λa d=>f.keep.block a ⟨d.1,λv=>d.2 (Z a v)⟩⟩,eo⟩;exact
  { jy:=(Q.block p (aA e.jy) e.pX).trans e.jy
    Cg:=by rw[YJ];exact e.Cg.kept (f.keep.block mt ⟨e.Cg.lt,λv=>(ad mt v).1 rfl⟩)
    Ch:=e.Ch.kept (f.keep.block mg ⟨e.Ch.lt,λv=>(ad mg v).2 rfl⟩)
    ne:=e.ne
    tab:=λl i=>by
     rcases AU (Db t) i with⟨rfl,-⟩|⟨i,P⟩
     . exact
        { jy:=by have:=f.jy;rw[hN]at this;exact this
          own:=f.own
          off:=f.off
          Lc:=f.Lc
          uB:=f.uB
          OW:=aS.away x.Lc x.OW x.c0 Y
          MA:=λA L E N K M v=>by
           rcases v with b|b|b|⟨H,G,b⟩
           . exact f.zap A L E N K M b
           . exact f.zap A L E N K M (e.sub _ (.inl b))
           . exact f.zap A L E N K M (e.sub _ (.inr (.inl b)))
           . rcases AU (Db t) G with⟨rfl,-⟩|⟨G,-⟩
             . exact f.MA A L E N K M b
             . exact f.zap A L E N K M (e.sub _ (.inr (.inr ⟨H,G,b⟩)))
          chk:=KR
          fit:=by
           show nB j.cy s.flatten;rw[F5];intro ag F;rw[bA]at F;rcases F with F|F
           . exact x.fit ag F
           . exact BG ag F
          few:=al
          GQ:=x.GQ
          c0:=x.c0 }
     . exact(e.tab l i).stays Q (ac l i P _ (.inl rfl)) (λk hk=>ac l i P k (.inr hk))
    apart:=by
     unfold wL;refine jX.mpr (List.Pairwise.imp_of_mem (λ{l H} i G O=>?_) (e.apart.and I));intro a u r;have rj:∀R∈tl,mA R.2.q R.2.sv a->a<w.heap.size:=λR hz d=>mA.inside (e.tab R hz) d;by_cases U:l.1.sameKey (tk t)=true
     . have b:=gj U
       have D:¬H.1.sameKey (tk t)=true:=λD=>O.2 (by rw[b,gj D]);have C:l.2=j:=AO I (k:=tk t) (by rw[<- b];exact i) z;rw[aN U]at u;rw[aH D]at r;rcases aa a u with y|y
       . exact O.1 a (by rw[C];exact y) r
       . have:=rj H G r;omega
     . rw[aH U]at u
       by_cases D:H.1.sameKey (tk t)=true
       . have b:=gj D
         have C:H.2=j:=AO I (k:=tk t) (by rw[<- b];exact G) z;rw[aN D]at r;rcases aa a r with y|y
         . exact O.1 a u (by rw[C];exact y)
         . have:=rj l i u;omega
       . rw[aH D]at r
         exact O.1 a u r
    gr:=λl i=>by
     obtain⟨A,t',u,r,y,ab,V,h5⟩:=e.gr l i;by_cases b:(tk t').sameKey (tk t)=true
     . have e1:=gj b
       have C:ab=j:=AO I (k:=tk t) (by rw[<- e1];exact V) z;subst C;exact⟨A,t',u,r,y,{ ab with sv:=m,vs:=n,Cs:=s },cP.mpr ⟨_,V,by simp only[b,if_true]⟩,h5.stays Q⟩
     . exact⟨A,t',u,r,y,ab,cP.mpr ⟨_,V,by simp only[b];rfl⟩,h5.stays Q⟩
    bJ:=λl i=>by
     rcases AU (Db t) i with⟨rfl,-⟩|⟨i,-⟩
     . have ai:=e.bJ (tk t,j) z
       exact ai
     . exact e.bJ l i
    sub:=λa d=>.inr d
    pZ:=λa d=>by
     rcases d with d|d
     . exact aw (e.pZ a d) f.keep.size
     . rcases d with b|b|⟨l,i,d⟩
       . exact aw (e.pZ a (e.sub a (.inl b))) f.keep.size
       . exact aw (e.pZ a (e.sub a (.inr (.inl b)))) f.keep.size
       . rcases AU (Db t) i with⟨rfl,-⟩|⟨i,-⟩
         . rcases d with b|b
           . rw[b];exact aA f.jy
           . exact(f.own.lt a b).2
         . exact aw (mA.inside (e.tab l i) d) f.keep.size
    pX:=λd=>by
     rcases Y p d with b|b
     . exact e.pX b
     . have:=aA e.jy;omega
    few:=⟨by unfold wL;rw[bk];exact e.few.1,e.few.2⟩ }
end
section
variable {o:zr} {w w':ω} {p mt mg:Nat} {X:Nat->Prop} {tl:Δ (Lit×iU)} {gl:Δ (Lit×pL)}
theorem dH.granted(a:dH o w p mt mg X tl gl){t:Γ}(I:x.size<=8)(H:t.size<=8){n:iU}(u:(tk t,n)∈tl){g:pL}(C:mK w' 239 mg (ik pL.val (o7 gl (gk x t) g)))(e:bu (λb=>b<w.heap.size/\b≠mg) w w')(O:(o6 gl (gk x t)).length<8)(N:Zz w' X n.cy g){s:Ending}(G:s=τ (χ #[ι κ 0,ι κ 0])) :
 mB o w w' p mt mg X tl ((0,0),⟨ik iU.told tl,o7 (ik pL.told gl) (gk x t) g.told⟩) s:=by
 have D:=a.sub mg (.inr (.inl rfl));have m:Gh w w' X X:=⟨e.size,λb j l=>e.block b ⟨j,λi=>by subst i;exact l D⟩,λ_ c=>.inl c⟩;have r:∀d∈tl,∀b,mA d.2.q d.2.sv b->w'.heap[b]?=w.heap[b]?:=λd f b c=>e.block b ⟨mA.inside (a.tab d f) c,(a.tab d f).yU a.Ch c⟩;have F:w'.heap[mt]?=w.heap[mt]?:=e.block mt ⟨a.Cg.lt,a.ne⟩;have v:dH o w' p mt mg X tl (o7 gl (gk x t) g):=
  { jy:=(m.block p (aA a.jy) a.pX).trans a.jy
    Cg:=a.Cg.kept F
    Ch:=C
    ne:=a.ne
    tab:=λd f=>(a.tab d f).stays m (r d f _ (.inl rfl)) (λk E=>r d f k (.inr E))
    apart:=a.apart
    gr:=λd f=>by
     rcases AE f with rfl|f
     . exact⟨x,t,rfl,I,H,n,u,N⟩
     . obtain⟨M,K,j,l,y,L,z,A⟩:=a.gr d (o8 f)
       exact⟨M,K,j,l,y,L,z,A.stays m⟩
    bJ:=a.bJ
    sub:=a.sub
    pZ:=λb c=>aw (a.pZ b c) e.size
    pX:=a.pX
    few:=⟨a.few.1,by rw[WY];omega⟩ }
 refine⟨G,tl,o7 gl (gk x t) g,?_,v.again,⟨e.os,e.tape,e.output,e.size,λb c=>e.block b ⟨c.1,λi=>c.2 (.inr (.inl i))⟩⟩,λb c=>.inl c⟩;unfold dD;rw[<- AB]
theorem dH.dropped(b:dH o w p mt mg X tl gl){t:Γ}{j:Δ (Lit×pL)}(u:j.Sublist gl)(A:∀d∈j,∀y:Γ,y.size<=8->d.1≠gk y t)(H:mK w' 9 mt (ik iU.val (o6 tl (tk t))))(G:mK w' 239 mg (ik pL.val j))(i:bu (λa=>a<w.heap.size/\a≠mt/\a≠mg) w w'){v:Ending}(M:v=τ (χ #[ι κ 0,ι κ 0])) :
 mB o w w' p mt mg X tl ((0,0),⟨o6 (ik iU.told tl) (tk t),ik pL.told j⟩) v:=by
 have I:=b.sub mg (.inr (.inl rfl));have K:=b.sub mt (.inl rfl);have n:Gh w w' X X:=⟨i.size,λa m l=>i.block a ⟨m,λe=>by subst e;exact l K,λe=>by subst e;exact l I⟩,λ_ c=>.inl c⟩;have s:∀d∈tl,∀a,mA d.2.q d.2.sv a->w'.heap[a]?=w.heap[a]?:=λd f a c=>i.block a ⟨mA.inside (b.tab d f) c,(b.tab d f).yU b.Cg c,(b.tab d f).yU b.Ch c⟩;have r:∀a,zK mt mg (o6 tl (tk t)) a->zK mt mg tl a:=λa c=>by
  rcases c with e|e|⟨d,f,c⟩
  . exact .inl e
  . exact .inr (.inl e)
  . exact .inr (.inr ⟨d,o8 f,c⟩)
 have C:dH o w' p mt mg X (o6 tl (tk t)) j:=
  { jy:=(n.block p (aA b.jy) b.pX).trans b.jy
    Cg:=H
    Ch:=G
    ne:=b.ne
    tab:=λd f=>(b.tab d (o8 f)).stays n (s d (o8 f) _ (.inl rfl)) (λk L=>s d (o8 f) k (.inr L))
    apart:=b.apart.filter _
    gr:=λd f=>by
     obtain⟨z,x,m,l,D,O,E,F⟩:=b.gr d (u.subset f);have N:x≠t:=λe=>A d f z l (by rw[m,e]);exact⟨z,x,m,l,D,O,ag2 E (λe=>N (N2 e)),F.stays n⟩
    bJ:=λd f=>b.bJ d (o8 f)
    sub:=λa c=>b.sub a (r a c)
    pZ:=λa c=>aw (b.pZ a c) i.size
    pX:=b.pX
    few:=⟨ay (gX _ _) b.few.1,ay u.length_le b.few.2⟩ }
 refine⟨M,o6 tl (tk t),j,?_,C.again,⟨i.os,i.tape,i.output,i.size,λa c=>i.block a ⟨c.1,λe=>c.2 (.inl e),λe=>c.2 (.inr (.inl e))⟩⟩,λa c=>.inl (r a c)⟩;unfold dD;rw[xG]
end
theorem Vu(f a i c:Int)(e push:Bool)(w:ω):Calls prog 23 #[χ #[ι κ f,ι κ a,ι κ i,.bool e,.bool push,ι κ c]] w λd w'=>d=τ (χ #[ι κ (min (max f 1) 16),ι κ (if 0<=a/\a<=3 then a else 0),ι κ (min (max i 1) 16),.bool e,.bool push,ι κ (min (max c 0) 4096)])/\δ w.heap.size w w':=by go_in;go_wp21;refine(S.wG a _).mono ?_;rintro d w1 ⟨rfl,rfl⟩;by_cases b:0<=a/\a<=3;{rw[cJ b];go_wp2;refine aE (by simp[results,results23,go_sem];rfl) rfl ?_;exact⟨by first|rfl|simp[b],((aj _ _).alloc (ae _) _).alloc (by simp) _⟩};rw[aV b];go_wp2;refine aE (by simp[results,results23,go_sem];rfl) rfl ?_;exact⟨by first|rfl|simp[b],((aj _ _).alloc (ae _) _).alloc (by simp) _⟩
def MQ(seg pk wd bz:Int)(prune push:Bool):zr:=
 ⟨(min (max seg 1) 16).toNat,(if 0<=pk/\pk<=3 then pk else 0).toNat,(min (max wd 1) 16).toNat,prune,push,(min (max bz 0) 4096).toNat,by omega,by omega,by split<;>omega,by omega,by omega,by omega⟩
theorem ahe(e a f c:Int)(j push:Bool)(w:ω):Calls prog 13 #[χ #[ι κ e,ι κ a,ι κ f,.bool j,.bool push,ι κ c]] w λi w'=>∃p mt mg,i=τ (π (σ ⟨p,0,ν⟩))/\dH (MQ e a f c j push) w' p mt mg (zK mt mg []) [] []/\w.heap.size<=mt/\w.heap.size<=mg/\w.heap.size<=p/\δ w.heap.size w w':=by
 obtain⟨r,m⟩:∃l,l=if 0<=a/\a<=3 then a else 0:=⟨_,rfl⟩
 have s:=ak (λw=>Vu e a f c j push w);rw[<- m]at s;have z:=ak m;clear m;have L:=@run_makeMap prog;go_in;go_wp21;refine(s.J _).mono ?_;rintro i w1 ⟨rfl,u⟩;have I:=ak (((aj w.heap.size w).alloc (ae _) _).trans (u.mono (by simp)));clear u;go_wp2;go_ret;have d:=I.J;have y:=d.size;have m:=z.J;obtain⟨F,G,H⟩:=Az w1 (.map #[] 0) (.map #[] 0) (ξ #[ι κ (min (max e 1) 16),ι κ r,ι κ (min (max f 1) 16),.bool j,.bool push,ι κ (min (max c 0) 4096),.map (σ w1.heap.size),.map (σ (w1.heap.size+1))] 74);have A:(((min (max e 1) 16).toNat:Nat):Int)=min (max e 1) 16:=by omega
 have C:(((if 0<=a/\a<=3 then a else 0).toNat:Nat):Int)=r:=by rw[m];split<;>omega
 have D:(((min (max f 1) 16).toNat:Nat):Int)=min (max f 1) 16:=by omega
 have E:(((min (max c 0) 4096).toNat:Nat):Int)=min (max c 0) 4096:=by omega
 refine⟨w1.heap.size+2,w1.heap.size,w1.heap.size+1,rfl,?_,y,by omega,by omega,((d.alloc y _).alloc (by simp;omega) _).alloc (by simp;omega) _⟩;exact
  { jy:=by
     show _=σ (Obj.cells #[ι κ (((min (max e 1) 16).toNat:Nat):Int),ι κ (((if 0<=a/\a<=3 then a else 0).toNat:Nat):Int),ι κ (((min (max f 1) 16).toNat:Nat):Int),.bool j,.bool push,ι κ (((min (max c 0) 4096).toNat:Nat):Int),.map (σ w1.heap.size),.map (σ (w1.heap.size+1))] 74 (0,0));rw[A,C,D,E];exact H
    Cg:=(mK.eY w1 9).kept (F.trans (az w1 _).symm)
    Ch:=by
     have v:=mK.eY (w1.alloc (.map #[] 0)) 239;have n:(w1.alloc (.map #[] 0)).heap.size=w1.heap.size+1:=by simp
     have x:=az (w1.alloc (.map #[] 0)) (.map #[] 0);rw[n]at v x;exact v.kept (G.trans x.symm)
    ne:=by omega
    tab:=λl b=>by simp at b
    apart:=List.Pairwise.nil
    gr:=λl b=>by simp at b
    bJ:=λl b=>by simp at b
    sub:=λ_ d=>d
    pZ:=λK d=>by
     have n:(((w1.alloc (.map #[] 0)).alloc (.map #[] 0)).alloc (ξ #[ι κ (min (max e 1) 16),ι κ r,ι κ (min (max f 1) 16),.bool j,.bool push,ι κ (min (max c 0) 4096),.map (σ w1.heap.size),.map (σ (w1.heap.size+1))] 74)).heap.size=w1.heap.size+3:=by simp
     rw[n];rcases d with i|i|⟨l,b,-⟩
     . omega
     . omega
     . simp at b
    pX:=λd=>by
     rcases d with i|i|⟨l,b,-⟩
     . omega
     . omega
     . simp at b
    few:=⟨by simp,by simp⟩ }
theorem ahf(a:Nat)(w:ω):(binOp .eql 71 (.map (σ a)) (.map ν)).run prog w=.ok (.bool false) w:=by
 first
 |rfl
 |go_simp
theorem adJ{o:zr}{w:ω}{p mt mg:Nat}{X:Nat->Prop}{tl:Δ (Lit×iU)}{gl:Δ (Lit×pL)}(a:dH o w p mt mg X tl gl):Calls prog 26 #[π (σ ⟨p,0,ν⟩)] w λb w'=>b=τ (π (σ ⟨p,0,ν⟩))/\δ w.heap.size w w':=by obtain⟨d,e,f,i,j,l,m,n⟩:=eS a.jy;clear a;have c:=ahf mt;go_in;go_wp2;go_ret;exact⟨rfl,aj _ _⟩
def Vx(b:Option Nat):Nat×Nat:=match b with|some b=>(7,b)|none=>(0,0)
theorem RO{w:ω}{r:oE}{cy:Δ bU}(E:aS w 5 m (Λ r.ew) (De (r.ew.map tW)))(D:eK w i cy)(an:Λ r.ew<=302) :
 Calls prog 270 #[χ #[ι κ r.pl,m],i] w λai w'=>ai=τ (χ #[ι κ (Vx (gH r cy)).1,ι κ (Vx (gH r cy)).2])/\δ w.heap.size w w':=by
 obtain⟨v,l,rfl⟩:=aS.slice E;obtain⟨ca,nj,rfl⟩:=D.slice;have⟨W,n⟩:=nm ((w.alloc (obQ r.pl v (Λ r.ew) l)).alloc (nP 0 0));have F:=zS n;have ES:W.heap.size=w.heap.size+2:=by rw[n];simp
 have c:W.heap[w.heap.size]?=σ (obQ r.pl v (Λ r.ew) l)/\W.heap[w.heap.size+1]?=σ (nP 0 0):=(by rw[n];have e2:=az (w.alloc (obQ r.pl v (Λ r.ew) l)) (nP 0 0);rw[show(w.alloc (obQ r.pl v (Λ r.ew) l)).heap.size=w.heap.size+1 by simp]at e2;exact⟨(fY _ _ (by simp)).trans (az w _),e2⟩)
 have HB:=ak (λwr (Y:δ W.heap.size W wr)=>(show δ w.heap.size w wr/\wr.heap[w.heap.size]?=σ (obQ r.pl v (Λ r.ew) l)/\wr.heap[w.heap.size+1]?=σ (nP 0 0)/\aS wr 5 (ψ v (Λ r.ew) l) (Λ r.ew) (De (r.ew.map tW))/\eK wr (ψ ca (Λ cy) nj) cy from by
  have V:=F.trans (Y.mono (by omega));exact⟨V,(Y.block _ (by omega)).trans c.1,(Y.block _ (by omega)).trans c.2,aS.aU E V (ae _),D.aU V (ae _)⟩))
 have HW:=ak n;have⟨R,U⟩:=bQ c.2;have z0:=jd c.2 0;have z1:=jd c.2 1;have⟨n0,n1⟩:=bQ c.1;have HF:=ak c.2;have oZ:=ak F;by_cases y:Λ r.ew=Λ cy;{have SH:(((Λ r.ew:Nat):Int) != ((Λ cy:Nat):Int))=false:=(by simp[y]);have WI:Hid (gH r cy=tN r.ew cy):=ak (by unfold gH;rw[aH (by simpa using y)]);have G:=ak y;clear y;clear n F ES c E D;go_in;go_wp2;rw[<- HW.J];clear R U z0 z1 n0 n1 SH;go_loopw[19] (λM wr=>∃a:Nat,a<=Λ r.ew/\M=ι κ a/\Hid (tN r.ew cy=tN (r.ew.drop a) (cy.drop a))/\Hid (δ W.heap.size W wr)) (λM _=>Λ r.ew - (intOf M).toNat);(case atStart=>exact⟨0,aB _,rfl,ak rfl,ak (aj _ _)⟩);case round=>obtain⟨a,hi,rfl,ac,ui⟩:=hrel;obtain⟨oX,-,b,K,C⟩:=HB.J wr ui.J;have H:=ak oX;have ab:=ak b;by_cases N:a<Λ r.ew;{have gY:=aX.2 N;have am:(a:Int)<Λ cy:=(by have:=G.J;omega);obtain⟨m,aa⟩:∃m,r.ew[a]?=σ m:=⟨_,af N⟩;obtain⟨k,L⟩:∃k,cy[a]?=σ k:=⟨_,af (by have:=G.J;omega)⟩;have ad:r.ew.drop a=m::r.ew.drop (a+1):=(by rw[cL N];congr 1;exact(ah.mp aa).2);have ag:cy.drop a=k::cy.drop (a+1):=(by rw[cL (by have:=G.J;omega)];congr 1;exact(ah.mp L).2);have I:Hid (tN r.ew cy=if(!m.bH&&!decide (m.kind=(k.2:Int)))=true then σ m.pl else tN (r.ew.drop (a+1)) (cy.drop (a+1))):=ak (by rw[ac.J,ad,ag];rfl);obtain⟨z,A,MO,Z,-,ao,u⟩:=aS.at K (by omega);cases Z;have x:(r.ew.map tW)[a]?=σ (tW m):=(by rw[bp,aa];rfl);have x0:Ξ wr ⟨z,A+a*5,ν⟩=σ (ι κ m.pl):=u (a*5) _ (cV tO 5 (λ_=>rfl) _ x (j:=0) (by decide));have x1:Ξ wr ⟨z,A+a*5+1,ν⟩=σ (ι κ (tW m).kind):=u (a*5+1) _ (cV tO 5 (λ_=>rfl) _ x (j:=1) (by decide));have x2:Ξ wr ⟨z,A+a*5+2,ν⟩=σ (.bool m.bH):=u (a*5+2) _ (cV tO 5 (λ_=>rfl) _ x (j:=2) (by decide));have x3:Ξ wr ⟨z,A+a*5+3,ν⟩=σ (ι κ m.n):=u (a*5+3) _ (cV tO 5 (λ_=>rfl) _ x (j:=3) (by decide));have x4:Ξ wr ⟨z,A+a*5+4,ν⟩=σ (θ m.s):=u (a*5+4) _ (cV tO 5 (λ_=>rfl) _ x (j:=4) (by decide));have⟨cg,co,Rc,Z,y0,y1⟩:=eK.get C L;cases Z;have⟨R,U⟩:=bQ b;have z0:=jd b 0;have z1:=jd b 1;have F5:=aA b;have al:cg<wr.heap.size:=aS.inside C (by omega) _ _ _ rfl;have xW:Hid (∀o,δ W.heap.size W (wr.alloc o)):=ak (λo=>ui.J.alloc ui.J.size o);clear oX b K C u aa L x ad ag;by_cases e:m.bH=true;{have j:(tW m).kind=0:=(by unfold tW;rw[e];rfl);rw[j]at x1;rw[e]at x2;have d:Hid (tN r.ew cy=tN (r.ew.drop (a+1)) (cy.drop (a+1))):=ak (by rw[I.J,e];rfl);clear j e;go_wp2;go_quiet(fail);go_wp2;exact⟨⟨a+1,by omega,by go_num,d,ak (below_drewN (xW.J _) _)⟩,by simp[intOf];omega⟩};have f:m.bH=false:=(by simpa using e);have j:(tW m).kind=m.kind:=(by unfold tW;rw[f];rfl);rw[j]at x1;rw[f]at x2;by_cases s:m.kind=(k.2:Int);{have wS:(m.kind != (k.2:Int))=false:=(by simp[s]);have d:Hid (tN r.ew cy=tN (r.ew.drop (a+1)) (cy.drop (a+1))):=ak (by rw[I.J,f,cJ s];rfl);clear j e f s;go_wp2;go_quiet(fail);go_wp2;exact⟨⟨a+1,by omega,by go_num,d,ak (below_drewN (xW.J _) _)⟩,by simp[intOf];omega⟩};have wS:(m.kind != (k.2:Int))=true:=(by simp[s]);have d:Hid (gH r cy=σ m.pl):=ak (by rw[WI.J,I.J,f,aV s];rfl);clear j e f s;go_wp2;go_quiet(fail);go_wp2;have⟨⟨O,P⟩,Q⟩:=ie (w1:=(wr.alloc (ξ #[ι κ m.pl,ι κ m.kind,.bool false,ι κ m.n,θ m.s] 292)).drewN nq) (below_drewN (H.J.alloc H.J.size _) _) (dt _) ((fY wr _ F5).trans ab.J) (ι κ 7) (ι κ m.pl);refine aE (by simp[results,results270,go_sem,O,P];rfl) rfl ?_;exact⟨by rw[d.J];rfl,Q⟩};obtain rfl:a=Λ r.ew:=(by omega);have d:Hid (gH r cy=ν):=ak (by rw[WI.J,ac.J,lZ];cases cy.drop (Λ r.ew)<;>rfl);have⟨R,U⟩:=bQ b;have z0:=jd b 0;have z1:=jd b 1;clear oX b K C;go_wp2;have⟨⟨O,P⟩,Q⟩:=ie H.J (dt _) ab.J (ι κ 0) (ι κ 0);refine aE (by simp[results,results270,go_sem,O,P];rfl) rfl ?_;exact⟨by rw[d.J];rfl,Q⟩};have SH:¬((Λ r.ew:Nat):Int)=Λ cy:=(by omega);have HR:Hid (gH r cy=σ r.pl):=ak (by unfold gH;rw[aN y]);clear n F ES c E D;go_in;go_wp2;refine aE (by simp[results,results270,go_sem];rfl) rfl ?_;exact⟨by rw[HR.J];rfl,((aj _ _).alloc (ae _) _).alloc (by simp) _⟩
section
variable {o:zr} {w w1 w2:ω} {p mt mg:Nat} {X:Nat->Prop} {tl:Δ (Lit×iU)} {gl:Δ (Lit×pL)}
theorem EB.adds{a:iU}(b:EB o w X a)(e:∀c,X c->c<w.heap.size)(d:∀c,mA a.q a.sv c->X c):sx X w w a.q 0 a.cy a.cv a.sv a.sv a.vs a.Cs (Λ a.Cs.flatten:Nat) where
 jy:=b.jy
 Lc:=b.Lc
 own:=b.own
 uB:=b.uB
 row:=λ_ f=>.inl f
 off:=b.off
 OW:=b.OW.mono d
 MA:=λj i=>(b.MA j i).mono d
 keep:=bu.refl _ _
 lq:=aA b.jy
 zap:=b.MA
 zin:=e
theorem dH.wide(c:dH o w p mt mg X tl gl)(d:δ w.heap.size w w1){k:Nat}(j:w.heap.size<=k)(l:k<w1.heap.size):dH o w1 p mt mg (λa=>X a\/a=k) tl gl:=
 c.stays ⟨d.size,λa e _=>d.block a e,λa b=>b.imp id (λi=>by omega)⟩ (λa f=>d.block a (c.pZ a (c.sub a f))) (λa b=>.inl b) (λa b=>by
  rcases b with b|b
  . exact aw (c.pZ a b) d.size
  . omega)
theorem ady(x:dH o w p mt mg X tl gl)(b:δ w.heap.size w w1){k:Nat}(N:w.heap.size<=k)(R:k<w1.heap.size){t:Γ}{d:iU}(Q:(tk t,d)∈tl){l:Δ (Δ (Δ aF))}{new:Δ (Δ aF)}(L:sx (λa=>X a\/a=k) w1 w2 d.q 0 d.cy d.cv d.sv m n l c)(M:c=Λ l.flatten)(F:oi o.seg l)(y:l.flatten=d.Cs.flatten++new)(E:nB d.cy new)(K:Λ l.flatten<=64){W9:ω}(s:W9=(w2.setCell ⟨k,0,ν⟩ i).setCell ⟨k,1,ν⟩ u){C:Ending}(P:C=τ (χ #[ι κ (0:Nat),ι κ (0:Nat)])) :
 mB o w W9 p mt mg X tl ((0,0),⟨wL (ik iU.told tl) (tk t) (d.cy,d.Cs.flatten++new),ik pL.told gl⟩) C:=by
 obtain⟨z,r,A⟩:=(x.wide b N R).loaded Q L M F y E K;have U:W9.heap.size=w2.heap.size:=by rw[s];simp[World.setCell]
 have v:∀a,a≠k->W9.heap[a]?=w2.heap[a]?:=λa b=>by rw[s];exact(aL _ _ _ _ b).trans (aL _ _ _ _ b)
 have O:∀a,zK mt mg tl a->a≠k:=λa e=>by have:=x.pZ a (x.sub a e);omega
 have G:∀a,zK mt mg (wL tl (tk t) { d with sv:=m,vs:=n,Cs:=l }) a->a≠k:=λa e=>by
  rcases A a e with j|j
  . exact O a j
  . omega
 have I:=z.stays (w':=W9) (X':=λa=>(X a\/a=k)\/zK mt mg (wL tl (tk t) { d with sv:=m,vs:=n,Cs:=l }) a) ⟨by omega,λa _ f=>v a (λj=>f (.inl (.inr j))),λa f=>.inl f⟩ (λa e=>v a (G a e)) (λa f=>f) (λa f=>by rw[U];exact z.pZ a f);refine⟨P,_,gl,?_,I.shrink (λa f=>f.imp .inl id) (λa e=>.inr e),?_,λa e=>?_⟩;{unfold dD;rw[<- adu];unfold iU.told;rw[<- y]};{refine⟨?_,?_,?_,?_,λa D=>?_⟩;{rw[s];exact r.os.trans b.os};{rw[s];exact r.tape.trans b.tape};{rw[s];exact r.output.trans b.output};{have:=r.size;have:=b.size;omega};have H:=D.1;have:=b.size;exact(v a (by omega)).trans ((r.block a ⟨by omega,D.2⟩).trans (b.block a H))};rcases A a e with j|j;{exact .inl j};have:=b.size;exact .inr (by omega)
end
theorem RG:∀{d:Δ xY} {cy:Δ bU},tN d cy=ν->Λ d=Λ cy->∀(a:Nat) (b:xY) (c:bU),d[a]?=σ b->cy[a]?=σ c->b.bH=true\/b.kind=(c.2:Int)
 |[],_,_,_,a,b,c,hv,_=>by simp at hv
 |v0::r,[],_,hl,_,_,_,_,_=>by simp at hl
 |v0::r,c0::l,h,hl,a,b,c,hv,hc=>by
   unfold tN at h;split at h
   . cases h
   . rename_i e
     cases a with
     |zero=>
       simp at hv hc;subst hv;subst hc
       cases Dk:v0.bH with
       |true=>exact .inl rfl
       |false=>exact .inr (by simpa[Dk]using e)
     |succ a=>exact RG h (by simpa using hl) a b c (by simpa using hv) (by simpa using hc)
theorem Gj{a:oE}{cy:Δ bU}(m:uy a)(b:gH a cy=ν):Λ a.ew=Λ cy/\NV cy (JO a):=by unfold gH at b;split at b;{cases b};rename_i l;have d:Λ a.ew=Λ cy:=(by simpa using l);refine⟨d,?_⟩;have i:=RG b d;refine⟨by unfold JO;simpa using d,λn r k c j=>?_⟩;unfold JO at c;rw[bp]at c;obtain⟨f,e,rfl⟩:=fJ.mp c;exact ag1 (m.2.1 f (aq e)) (i n f k e j)
theorem VH{o:zr}{w:ω}{p mt mg:Nat}{X:Nat->Prop}{tl:Δ (Lit×iU)}{gl:Δ (Lit×pL)}(h:dH o w p mt mg X tl gl)(hu:x.size<=maxLen){pl:Nat}{t:Nm}(ht:nF t){j:Δ dz}(hv:aS w 1 m (Λ j) (j.map λC:dz=>oH C.pl))(hk:rM w)(hp:vR w) :
 Calls prog 51 #[χ #[ι κ pl,θ t.1,ι κ t.2,m],π (σ ⟨p,0,ν⟩),θ x] w λcb w'=>cb=τ (.tuple #[θ ⟨(pC o.bz (dD tl gl) x pl t j).1.toArray⟩,χ #[ι κ (pC o.bz (dD tl gl) x pl t j).2.1,ι κ (pC o.bz (dD tl gl) x pl t j).2.2]])/\δ w.heap.size w w':=by
 obtain⟨Q,L,rfl⟩:=aS.slice hv;obtain⟨E,aa⟩:∃E,E=(w.alloc (ξ #[ι κ pl,θ t.1,ι κ t.2,ψ Q (Λ j) L] 120)).alloc (ξ #[ι κ 0,ι κ 0] 77):=⟨_,rfl⟩;have qd:δ w.heap.size w E:=by rw[aa];exact((aj _ _).alloc (ae _) _).alloc (by simp) _
 have lB:E.heap.size=w.heap.size+2:=by rw[aa];simp
 have GZ:E.heap[w.heap.size]?=σ (ξ #[ι κ pl,θ t.1,ι κ t.2,ψ Q (Λ j) L] 120 (0,0))/\E.heap[w.heap.size+1]?=σ (ξ #[ι κ 0,ι κ 0] 77 (0,0)):=(by rw[aa];have r:=az (w.alloc (ξ #[ι κ pl,θ t.1,ι κ t.2,ψ Q (Λ j) L] 120)) (ξ #[ι κ 0,ι κ 0] 77);rw[show(w.alloc (ξ #[ι κ pl,θ t.1,ι κ t.2,ψ Q (Λ j) L] 120)).heap.size=w.heap.size+1 by simp]at r;exact⟨(fY _ _ (by simp)).trans (az w _),r⟩)
 have U:=ak (λwr (c:δ E.heap.size E wr)=>(show dH o wr p mt mg X tl gl/\aS wr 1 (ψ Q (Λ j) L) (Λ j) (j.map λC:dz=>oH C.pl)/\rM wr/\vR wr/\δ w.heap.size w wr/\wr.heap[w.heap.size]?=σ (ξ #[ι κ pl,θ t.1,ι κ t.2,ψ Q (Λ j) L] 120 (0,0))/\wr.heap[w.heap.size+1]?=σ (ξ #[ι κ 0,ι κ 0] 77 (0,0))from by
  have y:=qd.trans (c.mono (by omega));exact⟨h.aU y,aS.aU hv y (ae _),hk.aU y (ae _),hp.aU y (ae _),y,(c.block _ (by omega)).trans GZ.1,(c.block _ (by omega)).trans GZ.2⟩))
 have bH:=ak (Vg (h.aU qd) hu (tj:=t.1) (by have:=ht.1;unfold maxLen;omega));have b0:=ak aa;have zi:=aA h.jy;clear h hv hk hp qd GZ aa;go_in;go_wp2_with fail;rw[<- b0.J];refine bH.J.mono ?_;rintro al w1 ⟨⟨tv,Kq,wv,d,rfl,⟨⟨ta,rfl⟩,⟨O,P,M,rfl⟩,a4⟩,rL⟩,y⟩;obtain⟨G,YM,mL,b8,bb,aC,K⟩:=U.J w1 y;have b4:∀(ag:Addr) (bt:Go.Mode) (w:ω),(store ag wv bt).run prog w=stored prog w ag wv bt:=(by rcases a4 with rfl|⟨k,ax,rfl⟩;{exact oC};exact mq k ax);obtain⟨q0,q1,q2,q3⟩:=vQ aC;obtain⟨f0,f1⟩:=bQ K;have z0:=jd K 0;have z1:=jd K 1;have iP:=ak y;have ar:=ak bb;have ao:=ak K;have F9:=aA aC;have F5:=aA K;clear G YM mL b8 bb aC K y;rcases rL with⟨rfl,BO⟩|⟨rfl,n,s,D,ag,lo,hl,Hh,aT,OJ,j6,hF,h0,h5,V,Xl⟩
 .have u:Hid (pC o.bz (dD tl gl) x pl t j=([],5,t.2)):=ak (by unfold pC;rw[BO]);clear BO;rcases a4 with rfl|⟨k,ax,rfl⟩
  {go_wp2_with fail;go_region;all_goals (try go_wp2_with fail);obtain⟨⟨z,A⟩,r⟩:=Hl ar.J (dt _) ao.J (ι κ 5) (ι κ t.2) (ξ #[.pointer ta,ψ O P M,.nilFunc] 176);refine aE (v:=.tuple #[θ ⟨#[]⟩,χ #[ι κ 5,ι κ t.2]]) (by simp[results,results51,go_sem,z,A];try rfl) rfl ?_;exact⟨by rw[u.J];rfl,r⟩};go_wp2_with fail;go_region;all_goals (try go_wp2_with fail);obtain⟨⟨z,A⟩,r⟩:=Hl ar.J (dt _) ao.J (ι κ 5) (ι κ t.2) (ξ #[.pointer ta,ψ O P M,.func (.func k) #[] ax] 176);refine aE (v:=.tuple #[θ ⟨#[]⟩,χ #[ι κ 5,ι κ t.2]]) (by simp[results,results51,go_sem,z,A];try rfl) rfl ?_;exact⟨by rw[u.J];rfl,r⟩
 unfold iU.val at Hh;cases Hh;have b3:=OJ;obtain⟨fk,fc,Nd,-⟩:=b3;subst Nd;clear a4;cases j with
 |cons N sr=>have u:Hid (pC o.bz (dD tl gl) x pl t (N::sr)=([],2,N.pl)):=ak (by unfold pC;rw[Xl]);obtain⟨-,YM,-⟩:=U.J w1 iP.J;obtain⟨sg,so,cc,he,-,cd,hx⟩:=aS.at YM (by simp);cases he;have ci:((0:Int)<((N::sr).length:Nat)):=(by simp);have x0:Ξ w1 ⟨sg,so+0,ν⟩=σ (ι κ N.pl):=hx 0 _ rfl;rw[kU]at x0;clear Xl hl aT OJ j6 hF V YM hx;go_wp2_with fail;go_region;all_goals (try go_wp2_with fail);obtain⟨⟨z,A⟩,r⟩:=Hl ar.J (dt _) ao.J (ι κ 2) (ι κ N.pl) (ξ #[π (σ ⟨n.q,0,ν⟩),ψ O P M,.func (.func fk) #[] fc] 176);refine aE (v:=.tuple #[θ ⟨#[]⟩,χ #[ι κ 2,ι κ N.pl]]) (by simp[results,results51,go_sem,z,A];try rfl) rfl ?_;exact⟨by rw[u.J];rfl,r⟩
 |nil=>
  obtain⟨a,yQ⟩:∃a,a=w1.alloc (ξ #[π (σ ⟨n.q,0,ν⟩),ψ O P M,.func (.func fk) #[] fc] 176):=⟨_,rfl⟩;have pS:δ w1.heap.size w1 a:=by rw[yQ];exact(aj _ _).alloc (ae _) _
  have am:=iP.J.trans (pS.mono iP.J.size);obtain⟨G,-,-,-,-,bn,bi⟩:=U.J a am;have ai:=G.tab _ (mQ hl);have I:=ak (λwr (c:δ a.heap.size a wr)=>(show Calls prog 81 #[χ #[π (σ ⟨n.q,0,ν⟩),ψ O P M,.func (.func fk) #[] fc],.agg (Y5 o).toArray] wr (λal w'=>∃kv bv,al=τ (χ #[kv,bv,ι κ (je D s n.Cs.flatten).length])/\eK w' kv (s.map λC=>n.cy.getD C default)/\jM (λd=>d<wr.heap.size) kv/\iJ (λd=>d<wr.heap.size) w' bv (dq (Λ s) (je D s n.Cs.flatten))/\δ wr.heap.size wr w')from by
   have H:=pS.trans (c.mono pS.size);have v:=(G.aU c).tab _ (mQ hl);exact NY (a:=ag) (lo:=lo) (sh:=s) (F:=D) (ok:=pK n.cy) o v.jy v.Lc (aS.dE v.own) v.uB v.chk v.fit v.few v.c0 v.GQ.1 (aS.aU aT H (ae _)) V h0 h5 OJ (j6.aU H) hF (λrow hr=>alJ (v.fit row hr))))
  have a5:=ak (Vh ai.GQ h5 V);have av:=ak (Vi ai.fit V D);have Bw:=ay (MC D s n.Cs.flatten) ai.few;have u:Hid (pC o.bz (dD tl gl) x pl t []=if o.bz<(je D s n.Cs.flatten).length then([],10,pl)else(Rm (s.map λC=>n.cy.getD C default) (je D s n.Cs.flatten),0,0)):=ak (by unfold pC;rw[Xl];rfl);obtain⟨S,hS⟩:∃S,S=je D s n.Cs.flatten:=⟨_,rfl⟩;obtain⟨b,hC⟩:∃b,b=s.map λC=>n.cy.getD C default:=⟨_,rfl⟩;have bg:Λ b=Λ s:=by rw[hC,bk]
  rw[<- hS]at I av u Bw;rw[<- hC]at I a5 av u;rw[<- bg]at I;unfold Y5 at I;clear bg;obtain⟨y0,y1,y2,y3,y4,y5,y6,y7⟩:=eS G.jy;have a3:a.heap[w1.heap.size]?=σ (ξ #[π (σ ⟨n.q,0,ν⟩),ψ O P M,.func (.func fk) #[] fc] 176 (0,0)):=by rw[yQ];exact az w1 _
  obtain⟨u0,u1,u2⟩:=bN a3;have ca:=aA G.jy;have b5:=aA bn;have b6:=aA bi;have b7:=aA a3;have a8:=ak (λw2 (c:δ a.heap.size a w2)=>(show((Ξ w2 ⟨p,0,ν⟩=σ (ι κ o.seg)/\Ξ w2 ⟨p,1,ν⟩=σ (ι κ o.pk)/\Ξ w2 ⟨p,2,ν⟩=σ (ι κ o.wd)/\Ξ w2 ⟨p,3,ν⟩=σ (.bool o.prune)/\Ξ w2 ⟨p,4,ν⟩=σ (.bool o.push)/\Ξ w2 ⟨p,5,ν⟩=σ (ι κ o.bz)/\Ξ w2 ⟨p,6,ν⟩=σ (.map (σ mt))/\Ξ w2 ⟨p,7,ν⟩=σ (.map (σ mg))))/\Ξ w2 ⟨w.heap.size,0,ν⟩=σ (ι κ pl)/\(Ξ w2 ⟨w.heap.size+1,0,ν⟩=σ (ι κ 0)/\Ξ w2 ⟨w.heap.size+1,1,ν⟩=σ (ι κ 0))/\(∀ac,w2.frozen? ⟨w.heap.size+1,ac,ν⟩=false)/\(p<w2.heap.size/\w.heap.size+1<w2.heap.size/\w.heap.size<w2.heap.size)/\w2.heap[w.heap.size+1]?=σ (ξ #[ι κ 0,ι κ 0] 77 (0,0))/\rM w2/\vR w2/\δ w.heap.size w w2 from by
   obtain⟨k1,-,k3,k4,k5,k6,k7⟩:=U.J w2 (am.trans (c.mono am.size));exact⟨eS k1.jy,(vQ k6).1,bQ k7,λac=>jd k7 ac,⟨aA k1.jy,aA k7,aA k6⟩,k7,k3,k4,k5⟩))
  have Ko:=ak yQ;clear Xl hl aT OJ j6 hF V G ai pS hS hC am bn bi a3 yQ;go_wp2_with fail;rw[<- Ko.J];have bo:(a.alloc (ξ #[ψ ν 0 0,ψ ν 0 0,ι κ 0] 185)).drew.heap.size=a.heap.size+1:=by show(a.heap.push _).size=_;rw[gJ]
  have xW:=ak (λw2 (c:δ (a.alloc (ξ #[ψ ν 0 0,ψ ν 0 0,ι κ 0] 185)).drew.heap.size (a.alloc (ξ #[ψ ν 0 0,ψ ν 0 0,ι κ 0] 185)).drew w2)=>(show w2.heap[a.heap.size]?=σ (ξ #[ψ ν 0 0,ψ ν 0 0,ι κ 0] 185 (0,0))/\δ a.heap.size a w2 from
   ⟨(c.block a.heap.size (by omega)).trans (az a (ξ #[ψ ν 0 0,ψ ν 0 0,ι κ 0] 185)),(aP ((aj a.heap.size a).alloc (ae _) _)).trans (c.mono (by omega))⟩))
  have b1:=ak bo;clear bo;have b2:(((Λ S:Nat):Int)>o.bz/\o.bz<Λ S)\/(¬((Λ S:Nat):Int)>o.bz/\¬o.bz<Λ S):=by omega
  go_region_with(go_at_call 81;refine(I.J _ (by first|exact aP (aj _ _)|exact aP ((aj _ _).alloc (ae _) _))).mono ?_;rintro al w2 ⟨kv,bv,rfl,Yp,A8,an,H⟩;obtain⟨f,i,rfl⟩:=aS.slice Yp;obtain⟨e,l,he⟩:=ft.slice an.batch;rw[cG]at he;subst he;(first|(have E5:=(xW.J w2 H).1;obtain⟨a0,a1,a2⟩:=bN E5;have ga:=λac=>jd E5 ac;have V7:=ak E5;have ap:=ak (show jM (λd=>d<a.heap.size+1) (ψ f (Λ b) i)/\iJ (λd=>d<a.heap.size+1) w2 (ψ e (Λ b) l) (dq (Λ b) S)from by rw[<- b1.J];exact⟨A8,an⟩);clear E5)|skip);have fM:Hid (δ a.heap.size a w2):=ak (by first|exact(aP (aj _ _)).trans H|exact(xW.J w2 H).2);have ad:=ak Yp;have XR:=ak an.batch;clear Yp A8 an H);all_goals
   first
   | (have F:Hid ((w2.alloc (ξ #[ψ f (Λ b) i,ψ e (Λ b) l,ι κ (Λ S)] 185)).heap[w2.heap.size]?=σ (ξ #[ψ f (Λ b) i,ψ e (Λ b) l,ι κ (Λ S)] 185 (0,0))/\eK (w2.alloc (ξ #[ψ f (Λ b) i,ψ e (Λ b) l,ι κ (Λ S)] 185)) (ψ f (Λ b) i) b/\ft (w2.alloc (ξ #[ψ f (Λ b) i,ψ e (Λ b) l,ι κ (Λ S)] 185)) (ψ e (Λ b) l) (dq (Λ b) S)):=ak ⟨az w2 _,ad.J.aU ((aj _ _).alloc (ae _) _) (ae _),XR.J.aU ((aj _ _).alloc (ae _) _) (ae _)⟩
      have R:Hid (δ a.heap.size a (w2.alloc (ξ #[ψ f (Λ b) i,ψ e (Λ b) l,ι κ (Λ S)] 185))):=ak (fM.J.alloc fM.J.size _);obtain⟨W9,e9⟩:∃W9,W9=w2.alloc (ξ #[ψ f (Λ b) i,ψ e (Λ b) l,ι κ (Λ S)] 185):=⟨_,rfl⟩;obtain⟨Z,Y⟩:∃Z,Z=w2.heap.size:=⟨_,rfl⟩;rw[<- e9]at F R ⊢;rw[<- Y]at F ⊢;clear e9 Y fM ad XR)
   | (have F:Hid ((((w2.setCell ⟨a.heap.size,0,ν⟩ (ψ f (Λ b) i)).setCell ⟨a.heap.size,1,ν⟩ (ψ e (Λ b) l)).setCell ⟨a.heap.size,2,ν⟩ (ι κ (Λ S))).heap[a.heap.size]?=σ (ξ #[ψ f (Λ b) i,ψ e (Λ b) l,ι κ (Λ S)] 185 (0,0))/\eK (((w2.setCell ⟨a.heap.size,0,ν⟩ (ψ f (Λ b) i)).setCell ⟨a.heap.size,1,ν⟩ (ψ e (Λ b) l)).setCell ⟨a.heap.size,2,ν⟩ (ι κ (Λ S))) (ψ f (Λ b) i) b/\ft (((w2.setCell ⟨a.heap.size,0,ν⟩ (ψ f (Λ b) i)).setCell ⟨a.heap.size,1,ν⟩ (ψ e (Λ b) l)).setCell ⟨a.heap.size,2,ν⟩ (ι κ (Λ S))) (ψ e (Λ b) l) (dq (Λ b) S)):=ak (by
       refine⟨Fv V7.J,aS.moves (M:=λd=>d=a.heap.size) ad.J (ap.J.1.mono (λd c=>by omega)) (by simp[World.setCell]) (λd _ c=>yO c),?_⟩;exact((ap.J.2.sub (M':=λd=>d=a.heap.size) (λd c=>by omega)).kept (by simp[World.setCell]) (λd _ c=>yO c)).batch)
      have R:Hid (δ a.heap.size a (((w2.setCell ⟨a.heap.size,0,ν⟩ (ψ f (Λ b) i)).setCell ⟨a.heap.size,1,ν⟩ (ψ e (Λ b) l)).setCell ⟨a.heap.size,2,ν⟩ (ι κ (Λ S)))):=ak (((fM.J.setCell (ae _) _).setCell (ae _) _).setCell (ae _) _);obtain⟨W9,e9⟩:∃W9,W9=((w2.setCell ⟨a.heap.size,0,ν⟩ (ψ f (Λ b) i)).setCell ⟨a.heap.size,1,ν⟩ (ψ e (Λ b) l)).setCell ⟨a.heap.size,2,ν⟩ (ι κ (Λ S)):=⟨_,rfl⟩;obtain⟨Z,Y⟩:∃Z,Z=a.heap.size:=⟨_,rfl⟩;rw[<- e9]at F R ⊢;rw[<- Y]at F ⊢;clear e9 Y fM ad XR V7 ap a0 a1 a2 ga)
  all_goals clear u0 u1 u2 y0 y1 y2 y3 y4 y5 y6 y7 I xW U iP b4 f0 f1 z0 z1 q0 q1 q2 q3 b7 b5 b6 ca;obtain⟨RN,bd,be⟩:=F.J;have SV:=R.J;obtain⟨⟨-,-,-,-,-,p5,-,-⟩,n0,⟨ce,cf⟩,ff,⟨cg,CM,FP⟩,ZT,bc,bl,oX⟩:=a8.J W9 SV;obtain⟨o0,o1,o2⟩:=bN RN;have a6:=ak ZT;have a7:=ak oX;have a9:=ak (λk=>ac6 (w:=W9.drewN k) a5.J av.J (by omega) (bd.aU (below_drewN (aj _ _) k) (ae _)) (be.aU (below_drewN (aj _ _) k) (ae _)) (bc.aU (below_drewN (aj _ _) k) (ae _)) (bl.aU (below_drewN (aj _ _) k) (ae _)));clear RN SV bd be ZT bc bl oX a8 F R;(try go_wp2_with fail);rcases b2 with⟨BU,sF⟩|⟨BU,sF⟩;{rw[aN sF]at u;clear a9;go_quiet(fail);go_wp2_with fail;go_region;all_goals (try go_wp2_with fail);obtain⟨⟨z,A⟩,r⟩:=ie (w1:=W9.drewN (nq+1)) (below_drewN a7.J _) (dt _) a6.J (ι κ 10) (ι κ pl);refine aE (v:=.tuple #[θ ⟨#[]⟩,χ #[ι κ 10,ι κ pl]]) (by simp[results,results51,go_sem,z,A];try rfl) rfl ?_;exact⟨by rw[u.J];rfl,r⟩};rw[aH sF]at u;go_quiet(fail);go_wp2_with fail;refine(a9.J nq).mono ?_;rintro al w4 ⟨rfl,qP⟩;have ab:=(qP.block _ (show w.heap.size+1<(W9.drewN nq).heap.size from CM)).trans a6.J;obtain⟨x0,x1⟩:=bQ ab;have z0:=jd ab 0;have z1:=jd ab 1;have bx:=ak ab;have bz:=ak ((below_drewN a7.J nq).trans (qP.mono (gZ FP)));clear qP ab;go_wp2_with fail;obtain⟨⟨z,A⟩,r⟩:=ie bz.J (dt _) bx.J (ι κ 0) (ι κ 0);refine aE (v:=.tuple #[θ ⟨(Rm b S).toArray⟩,χ #[ι κ 0,ι κ 0]]) (by simp[results,results51,go_sem,z,A];try rfl) rfl ?_;exact⟨by rw[u.J];rfl,r⟩
def Left(o:zr)(w w':ω)(p mt mg:Nat)(X:Nat->Prop)(tl:Δ (Lit×iU))(st:vT):Prop:=
 ∃Rz BI,dD Rz BI=st/\dH o w' p mt mg (λb=>X b\/zK mt mg Rz b) Rz BI/\bu (λb=>b<w.heap.size/\¬zK mt mg tl b) w w'/\∀b,zK mt mg Rz b->zK mt mg tl b\/w.heap.size<=b
section
variable {o:zr} {w w1 w2 W9:ω} {p mt mg:Nat} {X:Nat->Prop} {tl:Δ (Lit×iU)} {gl:Δ (Lit×pL)} {st:vT}
theorem Left.same(a:dH o w p mt mg X tl gl)(b:δ w.heap.size w w1):Left o w w1 p mt mg X tl (dD tl gl):=(a.same b (0,0) rfl).2
theorem Left.ends(m:dH o w p mt mg X tl gl)(d:δ w.heap.size w w1){k:Nat}(C:w.heap.size<=k)(D:k<w1.heap.size)(y:Left o w1 w2 p mt mg (λa=>X a\/a=k) tl st)(c:bu (λa=>a<w2.heap.size/\a≠k) w2 W9):Left o w W9 p mt mg X tl st:=by
 have⟨j,s,z,l,i,n⟩:=y;have A:∀a,zK mt mg tl a->a≠k:=λa b=>by have:=m.pZ a (m.sub a b);omega
 have u:∀a,zK mt mg j a->a≠k:=λa b=>by
  rcases n a b with f|f
  . exact A a f
  . omega
 have x:=l.stays (w':=W9) (X':=λa=>(X a\/a=k)\/zK mt mg j a) ⟨c.size,λa d e=>c.block a ⟨d,λf=>e (.inl (.inr f))⟩,λa e=>.inl e⟩ (λa b=>c.block a ⟨l.pZ a (.inr b),u a b⟩) (λa e=>e) (λa e=>aw (l.pZ a e) c.size);refine⟨j,s,z,x.shrink (λa e=>e.imp .inl id) (λa b=>.inr b),⟨c.os.trans (i.os.trans d.os),c.tape.trans (i.tape.trans d.tape),c.output.trans (i.output.trans d.output),ay d.size (ay i.size c.size),λa r=>?_⟩,λa b=>?_⟩;{have v:=r.1;have:=d.size;have:=i.size;exact(c.block a ⟨by omega,by omega⟩).trans ((i.block a ⟨by omega,r.2⟩).trans (d.block a v))};rcases n a b with f|f;{exact .inl f};have:=d.size;exact .inr (by omega)
end
def ag8(a:ZA):υ:=.tuple #[θ ⟨a.1.toArray⟩,χ #[ι κ (a.2.1:Nat),ι κ (a.2.2:Nat)]]
noncomputable def JY (bz:Nat)(st:vT)(uz:Γ)(c:Bp):ZA×vT:=
 match c with
 |.query ss=>(match ss with|s::r=>pC bz st uz s.pl s.tj r|[]=>([],0,0),st)
 |c=>if ct uz rP then(([],(wM st c).1.1,(wM st c).1.2),(wM st c).2)else(([],4,0),st)
theorem alR{bz:Nat}{st:vT}{uz:Γ}{a:Bp}(b:¬300<x.size)(c:lG x=.inl a):Kr bz st uz x=JY bz st uz a:=by unfold Kr;rw[aH b,c];cases a<;>rfl
theorem ag9{st:vT}{q:Nat×Nat}(a:¬300<b.size)(c:lG b=.inr q):Kr v st x b=(([],q.1,q.2),st):=by unfold Kr;rw[aH a,c]
theorem rQ{o:zr}{w:ω}{p mt mg:Nat}{X:Nat->Prop}{tl:Δ (Lit×iU)}{gl:Δ (Lit×pL)}(c:dH o w p mt mg X tl gl){uz:Γ}{e:TypeId}{res:(Nat×Nat)×vT}
 (R:∀w,(Instr.typeAssert (.iface e m) 75 120 true).run prog w=.ok (.tuple #[χ #[ι κ 0,θ ⟨#[]⟩,ι κ 0,ψ ν 0 0],.bool false]) w)
 (U:∀w,(Instr.typeAssert (.iface e m) 75 123 true).run prog w=.ok (.tuple #[.iface e m,.bool true]) w)
 (z:∀w,Sem.run prog (method 576 e m "quarry/quarry.apply") w=.ok (v,m) w) (Q:∀(x:Array υ) (w:ω),Sem.run prog (callFunc v x) w=.ok (.enter v x) w)
 (H:∀w1 u,δ w.heap.size w w1->dH o w1 p mt mg u tl gl->Calls prog v #[m,π (σ ⟨p,0,ν⟩)] w1 λf w'=>mB o w1 w' p mt mg u tl res f) :
 Calls prog 27 #[π (σ ⟨p,0,ν⟩),θ uz,.iface e m] w λf w'=>f=τ (ag8 (if ct uz rP then([],res.1.1,res.1.2)else([],4,0)))/\Left o w w' p mt mg X tl (if ct uz rP then res.2 else dD tl gl):=by
 have⟨W,n⟩:=nm (w.alloc (nP 0 0));have r:=Br n;have a:W.heap[w.heap.size]?=σ (nP 0 0):=by rw[n];exact az w _
 have A:=(H W _ r (c.wide r (ae _) (aA a)));have D:=ak n;have C:=ak a;have⟨M,N⟩:=bQ a;have Z:=jd a 0;have z1:=jd a 1;have s:=aA a;cases he:ct uz rP with|false=>(have G:(uz.toList==[97,100,109,105,110])=false:=(by rw[bX];exact he);have i:Hid (Left o w (w.alloc (nP 4 0)) p mt mg X tl (dD tl gl)):=ak (Left.same c ((aj _ _).alloc (ae _) _));have F:=bQ (az w (nP 4 0));have⟨j,l⟩:=F;go_in;go_wp2;refine aE (by simp[results,results27,go_sem,j,l];rfl) rfl ?_;exact⟨rfl,i.J⟩)|true=>have G:(uz.toList==[97,100,109,105,110])=true:=(by rw[bX];exact he);go_in;go_wp21;rw[<- D.J];refine A.mono ?_;rintro f w2 ⟨rfl,y⟩;have b:w2.heap[w.heap.size]?=σ (nP 0 0):=(by obtain⟨L,I,-,-,d,-⟩:=y;refine(d.block _ ⟨s,λz=>?_⟩).trans C.J;have:=c.pZ _ (c.sub _ z);omega);have⟨O,P⟩:=bQ b;have V:=jd b 0;have Y:=jd b 1;have K:=aA b;have i:Hid (Left o w ((w2.setCell ⟨w.heap.size,0,ν⟩ (ι κ (res.1.1:Nat))).setCell ⟨w.heap.size,1,ν⟩ (ι κ (res.1.2:Nat))) p mt mg X tl res.2):=ak (Left.ends c r (ae _) s y (((bu.refl _ _).setCell (λd=>d.2 rfl) _).setCell (λd=>d.2 rfl) _));have E:=ak b;go_wp2;have⟨j,l⟩:=bQ (bq _ _ 1 _ _ (ι κ (res.1.2:Nat)) (bq _ _ 0 _ _ (ι κ (res.1.1:Nat)) E.J));refine aE (by simp[results,results27,go_sem,j,l];rfl) rfl ?_;exact⟨rfl,i.J⟩
end
