import Derived.Test.YtcoaphfimellcaaGreatDoorQBK
import Derived.Test.YtcoaphfimellcaaGreatDoorQBM
import Derived.Test.YtcoaphfimellcaaGreatDoorQAI
import Derived.Test.YtcoaphfimellcaaGreatDoorQCE
set_option maxHeartbeats 0
set_option maxRecDepth 100000
namespace Go.Proofs.YtcoaphfimellcaaGreatDoor
open Go.RowKit
open _root_.Go.Proofs.Tryz
open Option renaming some→σ,none→ν
open Go.IntKind renaming i64→κ
open Go.Ending renaming returned→τ
open Go.Obj renaming cells→ξ
open Go renaming World→ω,Value→υ
open Go.RowKit renaming Below→δ
open Go.Value renaming int→ι,string→θ,slice→ψ,pointer→π,agg→χ
variable{m l:ByteArray}{x n c y z d W:υ}{v f P:Nat}{i:ω}{r:List υ}{s:List (Nat×υ)}{u:Nat->Prop}{b:List Nat}{a:Nat×Nat}{e:TypeId}{j:Int}
section
open Go.Maps
structure gD where
 q:Nat
 cv:υ
 sv:υ
 vs:List υ
 cols:List br
 Cs:List (List (List aD))
structure ot where
 shv:υ
 wv:υ
 sh:List Nat
 e:Ex
 a:ω
 lo:Nat
abbrev XI:=List br×List (List aD)
abbrev GrP:=List Nat×Ex
structure pG where
 tabs:List (Lit×XI)
 grs:List (Lit×GrP)
def gD.told(t:gD):XI:=(t.cols,t.Cs.flatten)
def ot.told(g:ot):GrP:=(g.sh,g.e)
def gD.val(t:gD):υ:=π (σ ⟨t.q,0,ν⟩)
def ot.val(g:ot):υ:=χ #[g.shv,g.wv]
def abX(cols:List br)(g:GrP):Prop:=0<g.1.length/\g.1.length<=5/\(∀s∈g.1,s<cols.length)/\pz g.2/\cH cols g.2=.inl 2
structure Dh (o:sE)(w:ω)(X:Nat->Prop)(t:gD):Prop where
 eW:w.heap[t.q]?=σ (ξ #[t.cv,t.sv,ι κ t.Cs.flatten.length] 205 (0,0))
 own:w.ownsRow 0 265 1 t.sv t.Cs.length t.vs
 off:t.sv.ownBlock≠σ t.q
 Ji:ew w t.cv t.cols
 sq:qj w t.cols t.vs t.Cs
 Mr:jO X t.cv
 JU:∀u∈t.vs,jO X u
 XG:nG o.seg t.Cs
 fit:fB t.cols t.Cs.flatten
 few:t.Cs.flatten.length<=64
 Et:sR t.cols
 c0:0<t.cols.length
structure XJ (w:ω)(X:Nat->Prop)(cols:List br)(g:ot):Prop where
 shr:gw w g.shv g.sh
 shn:jO X g.shv
 work:dJ g.a g.lo g.wv (gI cols) (λrow=>cU cols row g.e)
 kept:ft g.lo g.a.heap.size g.a w
 away:∀b,g.lo<=b->b<g.a.heap.size->¬X b
 fit:abX cols g.told
def ye(mt mg:Nat)(tl:List (Lit×gD))(b:Nat):Prop:=b=mt\/b=mg\/∃x∈tl,kY x.2.q x.2.sv b
structure cQ (o:sE)(w:ω)(p mt mg:Nat)(X:Nat->Prop)(tl:List (Lit×gD))(gl:List (Lit×ot)):Prop where
 eW:w.heap[p]?=σ (ξ #[ι κ o.seg,ι κ o.pk,ι κ o.wd,.bool o.prune,.bool o.push,ι κ o.bud,.map (σ mt),.map (σ mg)] 73 (0,0))
 Be:lz w 9 mt (fS gD.val tl)
 Bf:lz w 198 mg (fS ot.val gl)
 ne:mt≠mg
 tab:∀x∈tl,Dh o w X x.2
 apart:tl.Pairwise (λx y=>∀b,kY x.2.q x.2.sv b->¬kY y.2.q y.2.sv b)
 gr:∀x∈gl,∃u t:ByteArray,x.1=gk u t/\u.size<=8/\t.size<=8/\∃tc,(tk t,tc)∈tl/\XJ w X tc.cols x.2
 names:∀x∈tl,∃t:ByteArray,x.1=tk t/\t.size<=8
 sub:∀b,ye mt mg tl b->X b
 oS:∀b,X b->b<w.heap.size
 pX:¬X p
 few:tl.length<=4/\gl.length<=8
section
variable {o:sE} {w w':ω} {p mt mg:Nat} {X X':Nat->Prop} {tl:List (Lit×gD)} {gl:List (Lit×ot)} {t:gD} {g:ot} {cols:List br}
theorem jO.mono{a:Nat->Prop}(e:jO u x)(f:∀b,a b->u b):jO a x:=λc l d j i=>e c l d j (f _ i)
theorem bu.away{size:Nat}(i:bu w size x v r)(n:jO X x)(j:0<v)(l:∀a,X' a->X a\/w.heap.size<=a):jO X' x:=λb f c e m=>by
 rcases l _ m with d|d
 . exact n b f c e d
 . have:=bu.inside i j b f c e;omega
structure Fb (w w':ω)(X X':Nat->Prop):Prop where
 size:w.heap.size<=w'.heap.size
 block:∀b,b<w.heap.size->¬X b->w'.heap[b]?=w.heap[b]?
 grows:∀b,X' b->X b\/w.heap.size<=b
theorem Dh.stays(a:Dh o w X t)(b:Fb w w' X X')(m:w'.heap[t.q]?=w.heap[t.q]?)(n:∀k,t.sv.ownBlock=σ k->w'.heap[k]?=w.heap[k]?):Dh o w' X' t where
 eW:=m.trans a.eW
 own:=eJ a.own n
 off:=a.off
 Ji:=bu.moves a.Ji a.Mr b.size b.block
 sq:=a.sq.moves a.JU b.size b.block
 Mr:=bu.away a.Ji a.Mr a.c0 b.grows
 JU:=λf d=>by
  obtain⟨e,c⟩:=dz d;have r:=(aj.mp c).1;obtain⟨u,i,j⟩:=a.sq.2 e f (t.Cs[e]'(by rw[<- a.sq.1];exact r)) c (af _);have s:0<u.length:=by have l:=j.1;have:=a.c0;rw[aQ]at l;omega
  exact bu.away i (a.JU f d) s b.grows
 XG:=a.XG
 fit:=a.fit
 few:=a.few
 Et:=a.Et
 c0:=a.c0
theorem XJ.stays(a:XJ w X cols g)(b:Fb w w' X X'):XJ w' X' cols g where
 shr:=bu.moves a.shr a.shn b.size b.block
 shn:=bu.away a.shr a.shn a.fit.1 b.grows
 work:=a.work
 kept:=⟨ag a.kept.1 b.size,λk d c=>(b.block k (ai c a.kept.1) (a.away k d c)).trans (a.kept.2 k d c)⟩
 away:=λe d c i=>by
  rcases b.grows e i with f|f
  . exact a.away e d c f
  . have:=a.kept.1;omega
 fit:=a.fit
theorem kY.inside(a:Dh o w X t)(c:kY t.q t.sv v):v<w.heap.size:=by rcases c with rfl|b;{exact aw a.eW};exact(a.own.lt v b).2
theorem cQ.stays(a:cQ o w p mt mg X tl gl)(f:Fb w w' X X')(e:∀b,ye mt mg tl b->w'.heap[b]?=w.heap[b]?)(s:∀b,X b->X' b)(x:∀b,X' b->b<w'.heap.size):cQ o w' p mt mg X' tl gl where
 eW:=(f.block p (aw a.eW) a.pX).trans a.eW
 Be:=a.Be.kept (e mt (.inl rfl))
 Bf:=a.Bf.kept (e mg (.inr (.inl rfl)))
 ne:=a.ne
 tab:=λd c=>(a.tab d c).stays f (e _ (.inr (.inr ⟨d,c,.inl rfl⟩))) (λk v=>e k (.inr (.inr ⟨d,c,.inr v⟩)))
 apart:=a.apart
 gr:=λd c=>by
  obtain⟨z,t,j,l,m,y,n,r⟩:=a.gr d c;exact⟨z,t,j,l,m,y,n,r.stays f⟩
 names:=a.names
 sub:=λb u=>s b (a.sub b u)
 oS:=x
 pX:=λc=>by
  rcases f.grows p c with i|i
  . exact a.pX i
  . have:=aw a.eW;omega
 few:=a.few
theorem cQ.below(c:cQ o w p mt mg X tl gl)(b:δ w.heap.size w w'):cQ o w' p mt mg X tl gl:=
 c.stays ⟨b.size,λa d _=>b.block a d,λ_ b=>.inl b⟩ (λa e=>b.block a (c.oS a (c.sub a e))) (λ_=>id) (λa f=>ai (c.oS a f) b.size)
end
def cO(tl:List (Lit×gD))(gl:List (Lit×ot)):pG:=⟨fS gD.told tl,fS ot.told gl⟩
def iV:ByteArray:=⟨#[97,100,109,105,110]⟩
def tV(sh:List Nat)(F:List aD->dj)(t:XI):XI:=(sh.map λs=>t.1.getD s default,jV F sh t.2)
def zu(st:pG)(user table:ByteArray):Option XI:=
 match eU st.tabs (tk table)with
 |none=>ν
 |some t=>if iZ user iV then σ (tV (List.range t.1.length) (λ_=>.inl (po 1)) t)else(eU st.grs (gk user table)).map λg=>tV g.1 (λrow=>cU t.1 row g.2) t
abbrev Tj:=List UInt8×Nat×Nat
def mZ(bud:Nat)(st:pG)(user:ByteArray)(pl:Nat)(t:Nm)(ss:List mo):Tj:=
 match zu st user t.1 with
 |none=>([],5,t.2)
 |some v=>if(gC v.1 ss).1≠0 then([],(gC v.1 ss).1,(gC v.1 ss).2)else match kh bud pl v.1 v.2 ss with
   |.inl g=>([],g.1,g.2)
   |.inr x=>(xX x.1 x.2,0,0)
def qu(s:gx):mo:=(s.pl,if iZ s.word kH then(match s.exprs with|(e,f)::_=>.gB e f|[]=>.fJ s.pl)else if iZ s.word r9 then .mapA (s.names.zip s.exprs)else if iZ s.word ej then .lA s.n else .fJ s.pl)
def Di(bud:Nat)(st:pG)(user:ByteArray)(pl:Nat)(t:Nm)(ss:List gx):Tj:=mZ bud st user pl t (ss.map qu)
def zw:List (Nm×Nat)->List br->Nat ⊕ List br
 |[],l=>.inr l
 |c::r,l=>if 0<=yg l c.1.1 then .inl c.1.2 else zw r (l++[(c.1.1,c.2)])
def qv(st:pG)(t:Nm)(cols:List (Nm×Nat)):(Nat×Nat)×pG:=
 if(eU st.tabs (tk t.1)).isSome then((6,t.2),st)
 else match zw cols []with
  |.inl b=>((6,b),st)
  |.inr l=>if 4<=st.tabs.length\/5<l.length then((8,0),st)else((0,0),⟨qt st.tabs (tk t.1) (l,[]),st.grs⟩)
noncomputable def Fc (st:pG)(t:Nm):(Nat×Nat)×pG:=
 if(eU st.tabs (tk t.1)).isSome then((0,0),⟨pW st.tabs (tk t.1),st.grs.filter λx=>!@decide (∃u:ByteArray,u.size<=8/\x.1=gk u t.1) (Classical.propDecidable _)⟩)else((5,t.2),st)
def uM(st:pG)(u t:Nm):(Nat×Nat)×pG:=
 if(eU st.grs (gk u.1 t.1)).isSome then((0,0),⟨st.tabs,pW st.grs (gk u.1 t.1)⟩)else((5,u.2),st)
def wq:List Al->List br->Option Nat
 |v::r,c::l=>if !v.null&&!decide (v.kind=(c.2:Int))then σ v.pl else wq r l
 |_,_=>ν
def fY(r:uU)(cols:List br):Option Nat:=if r.vals.length≠cols.length then σ r.pl else wq r.vals cols
def IB(r:uU):List aD:=r.vals.map λv=>⟨v.null,v.n,v.s⟩
def xB{B:Type}(T:List (Lit×B))(k:Lit)(b:B):List (Lit×B):=T.map λp=>if p.1.sameKey k then(p.1,b)else p
def Bg(st:pG)(t:Nm)(rows:List uU):(Nat×Nat)×pG:=
 match eU st.tabs (tk t.1)with
 |none=>((5,t.2),st)
 |some tb=>match rows.findSome? (λr=>fY r tb.1)with
   |some b=>((7,b),st)
   |none=>if 64<tb.2.length+rows.length then((8,0),st)else((0,0),⟨xB st.tabs (tk t.1) (tb.1,tb.2++rows.map IB),st.grs⟩)
def fy(cols:List br):List Nm->List Nat->(Nat×Nat) ⊕ List Nat
 |[],l=>.inr (l.mergeSort (λa b=>decide (a<=b)))
 |n::r,l=>if yg cols n.1<0 then .inl (5,n.2)else if l.contains (yg cols n.1).toNat then .inl (6,n.2)else fy cols r (l++[(yg cols n.1).toNat])
def vt(st:pG)(u t:Nm)(cs:List Nm)(e:Ex)(pl:Nat):(Nat×Nat)×pG:=
 match eU st.tabs (tk t.1)with
 |none=>((5,t.2),st)
 |some tb=>match fy tb.1 cs []with
   |.inl f=>(f,st)
   |.inr sh=>match cH tb.1 e with
     |.inr f=>(f,st)
     |.inl k=>if k≠2 then((7,pl),st)else if(eU st.grs (gk u.1 t.1)).isNone/\8<=st.grs.length then((8,0),st)else((0,0),⟨st.tabs,qt st.grs (gk u.1 t.1) (sh,e)⟩)
noncomputable def lB (st:pG):Bi->(Nat×Nat)×pG
 |.create t cols=>qv st t cols
 |.drop t=>Fc st t
 |.load t rows=>Bg st t rows
 |.vB u t cs e pl=>vt st u t cs e pl
 |.wI u t=>uM st u t
 |.query _=>((0,0),st)
noncomputable def sF (bud:Nat)(st:pG)(user text:ByteArray):Tj×pG:=
 if 300<text.size then(([],1,0),st)
 else match iG text with
  |.inr q=>(([],q.1,q.2),st)
  |.inl (.query ss)=>(match ss with|s::r=>Di bud st user s.pl s.table r|[]=>([],0,0),st)
  |.inl c=>if iZ user iV then(([],(lB st c).1.1,(lB st c).1.2),(lB st c).2)else(([],4,0),st)
theorem XK{wr:ω}{t:TypeId}(a:wr.heap[v]?=σ (ξ #[x,n,c] t (0,0))):(((wr.setCell (Ad v 0) y).setCell (Ad v 1) z).setCell (Ad v 2) d).heap[v]?=σ (ξ #[y,z,d] t (0,0)):=
 aN _ v 2 _ _ d (aN _ v 1 _ _ z (aN _ v 0 _ _ y a))
theorem Tl{wr:ω}{k:Nat}(a:k≠v):(((wr.setCell (Ad v 0) x).setCell (Ad v 1) n).setCell (Ad v 2) c).heap[k]?=wr.heap[k]?:=
 (ay _ _ _ _ a).trans ((ay _ _ _ _ a).trans (ay _ _ _ _ a))
theorem eE{w1:ω}{g:υ}{t:TypeId}(a:w1.heap[v]?=σ (ξ #[x,n,c,y,z,d,g,W] t (0,0))):w1.cell? (Ad v 0)=σ x/\w1.cell? (Ad v 1)=σ n/\w1.cell? (Ad v 2)=σ c/\w1.cell? (Ad v 3)=σ y/\w1.cell? (Ad v 4)=σ z/\w1.cell? (Ad v 5)=σ d/\w1.cell? (Ad v 6)=σ g/\w1.cell? (Ad v 7)=σ W:=by simp[World.cell?,a]
theorem cQ.find{o:sE}{w:ω}{p mt mg:Nat}{X:Nat->Prop}{tl:List (Lit×gD)}{gl:List (Lit×ot)}(a:cQ o w p mt mg X tl gl)(b:m.size<=maxLen):(Instr.lookup 70 (.map (σ mt)) (θ m) false).run prog w=.ok (match eU tl (tk m)with|some t=>t.val|none=>π ν) w:=by rw[a.Be.look Tryz.MO underlying70 (Tg b) (Ti w),gU];cases eU tl (tk m)<;>rfl
theorem cQ.Le{o:sE}{w:ω}{p mt mg:Nat}{X:Nat->Prop}{tl:List (Lit×gD)}{gl:List (Lit×ot)}(a:cQ o w p mt mg X tl gl)(c:m.size<=maxLen)(b:l.size<=maxLen):(Instr.lookup 71 (.map (σ mg)) (χ #[θ m,θ l]) true).run prog w=.ok (.tuple #[match eU gl (gk m l)with|some g=>g.val|none=>χ #[ψ ν 0 0,.nilFunc],.bool (eU gl (gk m l)).isSome]) w:=by rw[a.Bf.aox Tryz.sT underlying71 (IA c b) (MQ w),gU];cases eU gl (gk m l)<;>rfl
def akn(w':ω)(tl:List (Lit×gD))(st:pG)(user table:ByteArray)(r:Ending):Prop:=
 ∃(tv shv wv:υ) (b:Bool),r=τ (.tuple #[χ #[tv,shv,wv],.bool b])/\((∃ta,tv=.pointer ta)/\(∃a n c,shv=ψ a n c)/\(wv=.nilFunc\/∃k c,wv=.func (.func k) #[] c))/\((b=false/\zu st user table=ν)\/(b=true/\∃(tc:gD) (sh:List Nat) (F:List aD->dj) (a:ω) (lo:Nat),eU tl (tk table)=σ tc/\tv=tc.val/\gw w' shv sh/\dJ a lo wv (gI tc.cols) F/\ft lo a.heap.size a w'/\(∀row,gI tc.cols row->∀c,F row=.inl c->rN c)/\0<sh.length/\sh.length<=5/\(∀s∈sh,s<tc.cols.length)/\zu st user table=σ (tV sh F tc.told)))
theorem nC(a:Addr)(b:Go.Mode)(w:ω):(store a .nilFunc b).run prog w=stored prog w a .nilFunc b:=run_store prog w a _ b rfl
theorem abY{w:ω}(e:gw w x b)(f:0<b.length)(i:∀o d,w.cell? (Ad v o)≠σ (ι κ d)):jO (λk=>k=v) x:=λm d n l a=>by
 obtain⟨g,o,r,c,j⟩:=gw.get e (af f);rw[l]at c
 cases c
 simp at a;subst a;exact i _ _ j
theorem XL{w:ω}{t:TypeId}(d:w.heap[v]?=σ (ξ #[x,n,c] t (0,0)))(e:∀b,x≠ι κ b)(f:∀b,n≠ι κ b)(i:∀b,c≠ι κ b):∀o b,w.cell? (Ad v o)≠σ (ι κ b):=λo b a=>by
 match o,a with
 |0,a=>simp[World.cell?,d]at a;exact e b a
 |1,a=>simp[World.cell?,d]at a;exact f b a
 |2,a=>simp[World.cell?,d]at a;exact i b a
 |o+3,a=>simp[World.cell?,d]at a
theorem wu{B:Type}{T:List (Lit×B)}(f:T.Pairwise (λp q=>p.1≠q.1)){k:Lit}{c d:B}(a:(k,c)∈T)(b:(k,d)∈T):c=d:=by
 induction T with
 |nil=>simp at a
 |cons m l j=>
   obtain⟨e,i⟩:=bk.mp f;rw[bF]at a b;rcases a with a|a<;>rcases b with b|b
   . rw[<- a]at b;exact(Prod.mk.inj b).2.symm
   . exact absurd (by rw[<- a]) (e _ b)
   . exact absurd (by rw[<- b]) (e _ a)
   . exact j i a b
theorem cQ.keys{o:sE}{w:ω}{p mt mg:Nat}{X:Nat->Prop}{tl:List (Lit×gD)}{gl:List (Lit×ot)}(a:cQ o w p mt mg X tl gl):tl.Pairwise (λp q=>p.1≠q.1):=by have:=a.Be.apart Tryz.MO;unfold fS at this;exact(nP.mp this).imp id
theorem Tn{o:sE}{w:ω}{p mt mg:Nat}{X:Nat->Prop}{tl:List (Lit×gD)}{gl:List (Lit×ot)}(n:cQ o w p mt mg X tl gl){table:ByteArray}(N:m.size<=maxLen)(A:table.size<=maxLen) :
 Calls prog 67 #[π (σ (Ad p 0)),θ m,θ table] w λar w'=>akn w' tl (cO tl gl) m table ar/\δ w.heap.size w w':=by
 have P:δ w.heap.size w (w.alloc (Nd (π ν) ν 0 0 .nilFunc)):=(ah _ _).alloc (ae _) _;have d:=n.below P;have L:=d.find A;obtain⟨s0,s1,s2,s3,s4,s5,s6,s7⟩:=eE n.eW;have hp:=aw n.eW;have W:=ak (au w (Nd (π ν) ν 0 0 .nilFunc));have F:=ak n;have H1:=ak d;have D:=ak P;clear n P
 cases hl:eU tl (tk table)with
 |none=>
   have HV:Hid (zu (cO tl gl) m table=ν):=ak (by unfold zu cO;simp only;rw[gU,hl];rfl);simp only[hl]at L;clear d hl;have ab:=nC;go_in;go_wp2_with fail;obtain⟨q0,q1,q2⟩:=aY W.J;refine aB (by simp[results,results67,go_sem];rfl) rfl ?_;exact⟨⟨_,_,_,_,rfl,⟨⟨_,rfl⟩,⟨_,_,_,rfl⟩,.inl rfl⟩,.inl ⟨rfl,HV.J⟩⟩,D.J⟩
 |some a=>
   simp only[hl]at L;unfold gD.val at L;have s:=mG hl;have f:=d.tab _ s;have G:=ak f;have i:Hid (zu (cO tl gl) m table=if iZ m iV then σ (tV (List.range a.cols.length) (λ_=>.inl (po 1)) a.told)else(eU (fS ot.told gl) (gk m table)).map λg=>tV g.1 (λrow=>cU a.cols row g.2) a.told):=ak (by unfold zu cO;simp only;rw[gU,hl];rfl);have U:=ak hl;by_cases z:m=iV
   . have ac:=ak (Hp f.eW f.Ji f.Et.1 (gI a.cols))
     rw[z]at i;subst z;unfold iV;clear hl s f d;go_in;go_wp2_with fail;refine ac.J.mono ?_;rintro aC w1 ⟨a2,wv,lo,rfl,r,O,nR,I⟩;obtain⟨C,y,rfl⟩:=bu.slice r;rw[cV]at r;have aq:=O;obtain⟨l,j,rfl,-⟩:=aq;have e:=(I.block _ (by simp)).trans W.J;obtain⟨q0,q1,q2⟩:=aY e;have z0:=eR e 0;have z1:=eR e 1;have z2:=eR e 2;have lI:w.heap.size<w1.heap.size:=aw e;have av:=iP l j;have ab:=nC;have al:Hid (∀W9,W9=((w1.setCell (Ad w.heap.size 0) (π (σ (Ad a.q 0)))).setCell (Ad w.heap.size 1) (ψ C a.cols.length y)).setCell (Ad w.heap.size 2) (.func (.func l) #[] j)->(W9.cell? (Ad w.heap.size 0)=σ (π (σ (Ad a.q 0)))/\W9.cell? (Ad w.heap.size 1)=σ (ψ C a.cols.length y)/\W9.cell? (Ad w.heap.size 2)=σ (.func (.func l) #[] j))/\gw W9 (ψ C a.cols.length y) (List.range a.cols.length)/\dJ W9 lo (.func (.func l) #[] j) (gI a.cols) (λ_=>.inl (po 1))/\δ w.heap.size w W9):=ak (by
      intro W9 c;have nQ:(w.alloc (Nd (π ν) ν 0 0 .nilFunc)).heap.size=w.heap.size+1:=by simp
      have Hs:=abY r (by rw[cV];exact G.J.c0) (XL e (by simp) (by simp) (by simp));refine⟨aY (t:=145) (by rw[c];exact XK e),bu.moves r Hs (by rw[c];simp[World.setCell]) (λax _ hb=>by rw[c];exact Tl hb),by rw[c];exact((O.set (by omega)).set (by omega)).set (by omega),?_⟩;rw[c];exact(((D.J.trans (I.mono (by omega))).setCell (ae _) _).setCell (ae _) _).setCell (ae _) _)
     clear r O I e;go_wp2_with fail;obtain⟨W9,c⟩:=nm (((w1.setCell (Ad w.heap.size 0) (π (σ (Ad a.q 0)))).setCell (Ad w.heap.size 1) (ψ C a.cols.length y)).setCell (Ad w.heap.size 2) (.func (.func l) #[] j));rw[<- c];obtain⟨⟨y0,y1,y2⟩,k3,k4,k5⟩:=al.J W9 c;refine aB (by simp[results,results67,go_sem,y0,y1,y2];rfl) rfl ?_;have FG:=G.J.c0;have ao:=G.J.Et.1;refine⟨⟨_,_,_,_,rfl,⟨⟨_,rfl⟩,⟨_,_,_,rfl⟩,.inr ⟨_,_,rfl⟩⟩,.inr ⟨rfl,a,List.range a.cols.length,_,W9,lo,U.J,rfl,k3,k4,⟨ae _,λ_ _ _=>rfl⟩,λrow _ an M=>by cases M;exact .inr (.inr rfl),by rw[cV];exact FG,by rw[cV];exact ao,λa0 hs=>dB.mp hs,i.J.trans (aF (by decide))⟩⟩,k5⟩
   . have fE:(m.toList==[97,100,109,105,110])=false:=by
      rw[dK]
      cases he:iZ m (bs [97,100,109,105,110])with
      |false=>rfl
      |true=>exact absurd (jE.mp he) z
     have VU:iZ m iV=false:=by
      cases he:iZ m iV with
      |false=>rfl
      |true=>exact absurd (jE.mp he) z
     rw[VU,aE (by simp)]at i;have x:=D.J.alloc (w:=w.alloc (Nd (π ν) ν 0 0 .nilFunc)) (by simp) (obR ν 0 0 .nilFunc);have u:=d.Le N A;have v:=(F.J.below x).Le N A;have jl:=ak x;have ab:=nC
     cases hg:eU gl (gk m table)with
     |none=>
       rw[gU,hg]at i;simp only[hg]at u v;clear hl s f d x hg;go_in;go_wp2_with fail;refine aB (by simp[results,results67,go_sem];rfl) rfl ?_;exact⟨⟨_,_,_,_,rfl,⟨⟨_,rfl⟩,⟨_,_,_,rfl⟩,.inl rfl⟩,.inl ⟨rfl,i.J⟩⟩,((ah _ _).alloc (ae _) _).alloc (by simp) _⟩
     |some g=>
       rw[gU,hg]at i;simp only[hg]at u v;unfold ot.val at u v;obtain⟨u',t',Z,ap,Gl,a1,Q,b⟩:=F.J.gr _ (mG hg);have V:(8:Nat)<=maxLen:=by unfold maxLen;omega
       obtain⟨-,rfl⟩:=MP N A (ag ap V) (ag Gl V) Z;obtain rfl:=wu F.J.keys s Q;have Y:=b.shr;obtain⟨sa,lL,E⟩:=bu.slice Y;have Ou:=b.work;obtain⟨l,j,H,-⟩:=Ou;rw[E,H]at u v;have ad:=ak b;have QF:=ak E;have am:=ak H;have av:=iP l j;clear hl s f d x hg Y b Z Q E H;go_in;go_wp2_with fail;refine aB (by simp[results,results67,go_sem];rfl) rfl ?_;have K:∀o1 o2,δ w.heap.size w ((w.alloc o1).alloc o2):=λ_ _=>((ah _ _).alloc (ae _) _).alloc (by simp) _;have b:=ad.J;have aa:=b.shr;rw[QF.J]at aa;have R:=b.work;rw[am.J]at R;exact⟨⟨_,_,_,_,rfl,⟨⟨_,rfl⟩,⟨_,_,_,rfl⟩,.inr ⟨_,_,rfl⟩⟩,.inr ⟨rfl,a,g.sh,_,g.a,g.lo,U.J,rfl,bu.below aa (K _ _) (ae _),R,b.kept.below (K _ _),λrow hr an M=>pR hr g.e b.fit.2.2.2.1 b.fit.2.2.2.2 M,b.fit.1,b.fit.2.1,b.fit.2.2.1,i.J⟩⟩,K _ _⟩
theorem IC{cols:List br}(e:sR cols)(f:b.length<=5)(l:∀a∈b,a<cols.length):sR (b.map λa=>cols.getD a default):=by
 refine⟨by rw[aQ];exact f,λm i=>?_⟩;obtain⟨a,j,rfl⟩:=cE.mp i;have c:=l a j;have d:cols.getD a default=cols[a]:=by simp[List.getD,List.getElem?_eq_getElem c]
 rw[d];exact e.2 _ (cF c)
theorem IE{cols:List br}{j:List (List aD)}(m:fB cols j)(r:∀a∈b,a<cols.length)(l:List aD->dj):fB (b.map λa=>cols.getD a default) (jV l b j):=by
 intro x i;unfold jV at i;obtain⟨row,n,rfl⟩:=cE.mp i;have e:=m row (eA.mp n).1;unfold qp;refine⟨by rw[aQ,aQ],λs v k c d=>?_⟩;rw[aV]at c d
 cases hj:b[s]? with
 |none=>rw[hj]at c;cases c
 |some a=>
   rw[hj]at c d
   cases c
   cases d
   have f:=r a (aA hj);have u:a<row.length:=by rw[e.1];exact f
   exact e.2 a _ _ (by simp[List.getD,List.getElem?_eq_getElem u]) (by simp[List.getD,List.getElem?_eq_getElem f])
def lg(o:sE)(w w':ω)(p mt mg:Nat)(X:Nat->Prop)(tl:List (Lit×gD))(res:(Nat×Nat)×pG)(r:Ending):Prop:=
 r=τ (χ #[ι κ res.1.1,ι κ res.1.2])/\∃Pv AH,cO Pv AH=res.2/\cQ o w' p mt mg (λb=>X b\/ye mt mg Pv b) Pv AH/\aX (λb=>b<w.heap.size/\¬ye mt mg tl b) w w'/\∀b,ye mt mg Pv b->ye mt mg tl b\/w.heap.size<=b
section
variable {o:sE} {w w':ω} {p mt mg:Nat} {X:Nat->Prop} {tl:List (Lit×gD)} {gl:List (Lit×ot)}
theorem Pw(a:δ w.heap.size w w'):aX (λb=>b<w.heap.size/\¬u b) w w':=⟨a.os,a.tape,a.output,a.size,λb c=>a.block b c.1⟩
theorem cQ.same(c:cQ o w p mt mg X tl gl)(d:δ w.heap.size w w')(e:Nat×Nat){i:Ending}(l:i=τ (χ #[ι κ e.1,ι κ e.2])):lg o w w' p mt mg X tl (e,cO tl gl) i:=by refine⟨l,tl,gl,rfl,c.stays ⟨d.size,λa j _=>d.block a j,λa b=>?_⟩ (λa f=>d.block a (c.oS a (c.sub a f))) (λa b=>.inl b) (λa b=>?_),Pw d,λa f=>.inl f⟩;{rcases b with b|b;{exact .inl b};exact .inl (c.sub a b)};rcases b with b|b;{exact ai (c.oS a b) d.size};exact ai (c.oS a (c.sub a b)) d.size
end
theorem IG(a:ByteArray):WideAt.IsKeyLit (tk a):=trivial
theorem akp(b a:ByteArray):WideAt.IsKeyLit (gk b a):=trivial
section
variable {B:Type} {T:List (Lit×B)} {k:Lit}
theorem XO(a:eU T k=ν):pW T k=T:=by
 unfold eU at a;have c:T.find? (λp=>p.1.sameKey k)=ν:=by
  cases h2:T.find? (λp=>p.1.sameKey k)with
  |none=>rfl
  |some b=>rw[h2]at a;cases a
 unfold pW;rw[List.filter_eq_self];intro b d;have:=ud.mp c b d;simp at this;simp[this]
theorem afP{a:Lit×B}(b:a∈T)(c:a.1≠k):a∈pW T k:=by
 unfold pW;rw[eA];refine⟨b,?_⟩
 cases hs:a.1.sameKey k with
 |false=>rfl
 |true=>exact absurd (gT hs) c
theorem afQ{a:Lit×B}{b:B}(c:a∈pW T k):a∈qt T k b:=Df.mpr (.inr c)
theorem Ve{a:B}:(qt T k a).length=(pW T k).length+1:=Pt _ _
end
section
variable {o:sE} {w w':ω} {p mt mg:Nat} {X:Nat->Prop} {tl:List (Lit×gD)} {gl:List (Lit×ot)}
theorem lz.nD{T:List (Lit×υ)}(d:lz w v f T){c:Array υ}{t:TypeId}:w.heap[f]?≠σ (ξ c t a):=λb=>by
 obtain⟨j,i,e,-⟩:=d;rw[e]at b
 cases b
theorem Dh.xC{t:gD}(c:Dh o w X t){T:List (Lit×υ)}(d:lz w v f T)(e:kY t.q t.sv P):P≠f:=λa=>by
 subst a;rcases e with a|a
 . subst a;exact d.nD c.eW
 . rcases c.own.2 with⟨b,-⟩|⟨g,j,cur,b,-,i,-⟩
   . rw[b]at a;cases a
   . rw[b]at a;cases a;exact d.nD i
theorem cQ.less(a:cQ o w p mt mg X tl gl){f:List (Lit×ot)}(r:f.Sublist gl)(z:lz w' 198 mg (fS ot.val f))(s:w.heap.size<=w'.heap.size)(l:∀b,b<w.heap.size->b≠mg->w'.heap[b]?=w.heap[b]?):cQ o w' p mt mg X tl f:=by
 have A:=a.sub mg (.inr (.inl rfl));have m:Fb w w' X X:=⟨s,λb i j=>l b i (λu=>by subst u;exact j A),λ_ e=>.inl e⟩;have n:∀c∈tl,∀b,kY c.2.q c.2.sv b->w'.heap[b]?=w.heap[b]?:=λc d b e=>l b (kY.inside (a.tab c d) e) ((a.tab c d).xC a.Bf e);have D:w'.heap[mt]?=w.heap[mt]?:=l mt a.Be.lt a.ne;exact
  { eW:=(m.block p (aw a.eW) a.pX).trans a.eW
    Be:=a.Be.kept D
    Bf:=z
    ne:=a.ne
    tab:=λc d=>(a.tab c d).stays m (n c d _ (.inl rfl)) (λk C=>n c d k (.inr C))
    apart:=a.apart
    gr:=λc d=>by
     obtain⟨F,t,i,j,v,E,x,y⟩:=a.gr c (r.subset d);exact⟨F,t,i,j,v,E,x,y.stays m⟩
    names:=a.names
    sub:=a.sub
    oS:=λb e=>ai (a.oS b e) s
    pX:=a.pX
    few:=⟨a.few.1,ag r.length_le a.few.2⟩ }
theorem cQ.lost(e:cQ o w p mt mg X tl gl){d:List (Lit×ot)}(u:d.Sublist gl)(r:lz w' 198 mg (fS ot.val d))(c:aX (λb=>b<w.heap.size/\b≠mg) w w'){f:Nat×Nat}{j:Ending}(s:j=τ (χ #[ι κ f.1,ι κ f.2])):lg o w w' p mt mg X tl (f,cO tl d) j:=by have i:=e.less u r c.size (λb m n=>c.block b ⟨m,n⟩);refine⟨s,tl,d,rfl,i.stays ⟨ae _,λ_ _ _=>rfl,λb a=>a.elim .inl (λa=>.inl (e.sub b a))⟩ (λ_ _=>rfl) (λ_ a=>.inl a) (λb a=>a.elim (i.oS b) (λa=>i.oS b (e.sub b a))),⟨c.os,c.tape,c.output,c.size,λb a=>c.block b ⟨a.1,λl=>a.2 (.inr (.inl l))⟩⟩,λb a=>.inl a⟩
theorem cQ.more(d:cQ o w p mt mg X tl gl){t:ByteArray}(R:t.size<=8)(P:eU tl (tk t)=ν)(hl:tl.length<4){q:Nat}{cv:υ}{cols:List br}(K:lz w' 9 mt (fS gD.val (qt tl (tk t) ⟨q,cv,ψ ν 0 0,[],cols,[]⟩)))(i:aX (λa=>a<w.heap.size/\a≠mt) w w')(Q:w.heap.size<=q)
 (y:w'.heap[q]?=σ (ξ #[cv,ψ ν 0 0,ι κ 0] 205 (0,0))) (G:ew w' cv cols) (M:jO (λa=>a<w.heap.size\/a=q) cv) (F:sR cols) (D:0<cols.length) {s:Ending} (n:s=τ (χ #[ι κ 0,ι κ 0])) :
 lg o w w' p mt mg X tl ((0,0),⟨qt (fS gD.told tl) (tk t) (cols,[]),fS ot.told gl⟩) s:=by
 have x:=XO P;have L:=d.sub mt (.inl rfl);have A:∀a,ye mt mg (qt tl (tk t) ⟨q,cv,ψ ν 0 0,[],cols,[]⟩) a->X a\/a=q:=λa c=>by
  rcases c with b|b|⟨f,e,c⟩
  . exact .inl (d.sub a (.inl b))
  . exact .inl (d.sub a (.inr (.inl b)))
  . rcases zt e with rfl|e
    . rcases c with b|b
      . exact .inr b
      . cases b
    . exact .inl (d.sub a (.inr (.inr ⟨f,nX e,c⟩)))
 have m:∀a,(X a\/ye mt mg (qt tl (tk t) ⟨q,cv,ψ ν 0 0,[],cols,[]⟩) a)->X a\/a=q:=λa c=>c.elim .inl (A a);have r:Fb w w' X (λa=>X a\/ye mt mg (qt tl (tk t) ⟨q,cv,ψ ν 0 0,[],cols,[]⟩) a):=⟨i.size,λa j l=>i.block a ⟨j,λb=>by subst b;exact l L⟩,λa c=>(m a c).imp id (λb=>by omega)⟩;have v:∀f∈tl,∀a,kY f.2.q f.2.sv a->w'.heap[a]?=w.heap[a]?:=λf e a c=>i.block a ⟨kY.inside (d.tab f e) c,(d.tab f e).xC d.Be c⟩;have O:w'.heap[mg]?=w.heap[mg]?:=i.block mg ⟨d.Bf.lt,λb=>d.ne b.symm⟩;have E:=aw y;refine⟨n,qt tl (tk t) ⟨q,cv,ψ ν 0 0,[],cols,[]⟩,gl,?_,?_,⟨i.os,i.tape,i.output,i.size,λa c=>i.block a ⟨c.1,λb=>c.2 (.inl b)⟩⟩,λa c=>?_⟩;{unfold cO;rw[<- zr];rfl}
 .exact
   { eW:=(r.block p (aw d.eW) d.pX).trans d.eW
     Be:=K
     Bf:=d.Bf.kept O
     ne:=d.ne
     tab:=λf e=>by
      rcases zt e with rfl|e
      . exact
         { eW:=y
           own:=⟨rfl,.inl ⟨rfl,rfl⟩⟩
           off:=by simp[Value.ownBlock]
           Ji:=G
           sq:=⟨rfl,λac u ab j=>by simp at j⟩
           Mr:=M.mono (λa c=>(m a c).imp (d.oS a) id)
           JU:=λu U=>by simp at U
           XG:=nG.nil
           fit:=λs n=>by simp at n
           few:=by simp
           Et:=F
           c0:=D }
      . have e:=nX e
        exact(d.tab f e).stays r (v f e _ (.inl rfl)) (λk N=>v f e k (.inr N))
     apart:=J7 (λaa a C k j l=>C k l j) d.apart (λZ V a j l=>by
      have z:=kY.inside (d.tab Z (nX V)) l;rcases j with b|b
      . simp at b;omega
      . cases b)
     gr:=λf e=>by
      obtain⟨u,W,j,l,z,Y,H,I⟩:=d.gr f e;exact⟨u,W,j,l,z,Y,afQ (by rw[x];exact H),I.stays r⟩
     names:=λf e=>by
      rcases zt e with rfl|e
      . exact⟨t,rfl,R⟩
      . exact d.names f (nX e)
     sub:=λa c=>.inr c
     oS:=λa c=>by
      rcases m a c with b|b
      . exact ai (d.oS a b) i.size
      . rw[b];exact E
     pX:=λc=>by
      rcases m p c with b|b
      . exact d.pX b
      . have:=aw d.eW;omega
     few:=⟨by rw[Ve,x];omega,d.few.2⟩ }
 rcases c with b|b|⟨f,e,c⟩;{exact .inl (.inl b)};{exact .inl (.inr (.inl b))};rcases zt e with rfl|e;{rcases c with b|b;{exact .inr (by rw[b];exact Q)};cases b};exact .inl (.inr (.inr ⟨f,nX e,c⟩))
theorem cQ.again(c:cQ o w p mt mg X tl gl):cQ o w p mt mg (λb=>X b\/ye mt mg tl b) tl gl:=
 c.stays ⟨ae _,λ_ _ _=>rfl,λb a=>a.elim .inl (λa=>.inl (c.sub b a))⟩ (λ_ _=>rfl) (λ_ a=>.inl a) (λb a=>a.elim (c.oS b) (λa=>c.oS b (c.sub b a)))
end
theorem abZ{B c:Type}(a:B->c)(T:List (Lit×B))(k:Lit)(b:B):xB (fS a T) k (a b)=fS a (xB T k b):=by unfold xB fS;rw[ig,ig];apply eO;intro d _;simp only[Function.comp];split<;>rfl
theorem zx{B:Type}{T:List (Lit×B)}{k:Lit}(j:WideAt.IsKeyLit k){d:B}{b:Lit×B}(i:b∈xB T k d):(b=(k,d)/\∃f,(k,f)∈T)\/(b∈T/\b.1≠k):=by obtain⟨l,e,rfl⟩:=cE.mp i;split;{rename_i c;have a:=gT c;exact .inl ⟨by rw[a],l.2,by rw[<- a];exact e⟩};rename_i c;exact .inr ⟨e,λa=>c (by rw[a];exact oQ j)⟩
section
variable {o:sE} {w w1 w':ω} {p mt mg:Nat} {X X2:Nat->Prop} {tl:List (Lit×gD)} {gl:List (Lit×ot)}
theorem cQ.shrink(b:cQ o w p mt mg X tl gl)(d:∀a,X2 a->X a)(r:∀a,ye mt mg tl a->X2 a):cQ o w p mt mg X2 tl gl where
 eW:=b.eW
 Be:=b.Be
 Bf:=b.Bf
 ne:=b.ne
 tab:=λf e=>(b.tab f e).stays ⟨ae _,λ_ _ _=>rfl,λa c=>.inl (d a c)⟩ rfl (λ_ _=>rfl)
 apart:=b.apart
 gr:=λf e=>by
  obtain⟨u,t,i,j,l,s,m,n⟩:=b.gr f e;exact⟨u,t,i,j,l,s,m,n.stays ⟨ae _,λ_ _ _=>rfl,λa c=>.inl (d a c)⟩⟩
 names:=b.names
 sub:=r
 oS:=λa c=>b.oS a (d a c)
 pX:=λc=>b.pX (d p c)
 few:=b.few
theorem Px{f:Type}{e:f->f->Prop}(m:∀i j,e i j->e j i):∀{T:List f},T.Pairwise e->∀{b c:f},b∈T->c∈T->b≠c->e b c
 |[],_,b,c,a,_,_=>by simp at a
 |z::r,h,b,c,a,d,fE=>by
   obtain⟨l,n⟩:=bk.mp h;rw[bF]at a d;rcases a with rfl|a<;>rcases d with rfl|d
   . exact absurd rfl fE
   . exact l c d
   . exact m _ _ (l b a)
   . exact Px m n a d fE
theorem cQ.loaded(d:cQ o w p mt mg X tl gl){t:ByteArray}{i:gD}(z:(tk t,i)∈tl){n:List (List (List aD))}{new:List (List aD)}(e:oY X w w' i.q 0 i.cols i.cv i.sv x r n j)(hN:j=n.flatten.length)(uH:nG o.seg n)(DW:n.flatten=i.Cs.flatten++new)(wR:fB i.cols new)(am:n.flatten.length<=64) :
 cQ o w' p mt mg (λa=>X a\/ye mt mg (xB tl (tk t) { i with sv:=x,vs:=r,Cs:=n }) a) (xB tl (tk t) { i with sv:=x,vs:=r,Cs:=n }) gl/\aX (λa=>a<w.heap.size/\¬ye mt mg tl a) w w'/\∀a,ye mt mg (xB tl (tk t) { i with sv:=x,vs:=r,Cs:=n }) a->ye mt mg tl a\/w.heap.size<=a:=by
 have I:=d.keys;have v:=d.tab _ z;have Y:∀a,kY i.q i.sv a->ye mt mg tl a:=λa c=>.inr (.inr ⟨_,z,c⟩);have Z:∀a,kY i.q x a->kY i.q i.sv a\/w.heap.size<=a:=λa c=>by
  rcases c with b|b
  . exact .inl (.inl b)
  . exact(e.row a b).imp .inr id
 have bY:∀a,ye mt mg (xB tl (tk t) { i with sv:=x,vs:=r,Cs:=n }) a->ye mt mg tl a\/w.heap.size<=a:=λa c=>by
  rcases c with b|b|⟨l,f,c⟩
  . exact .inl (.inl b)
  . exact .inl (.inr (.inl b))
  . rcases zx (IG t) f with⟨rfl,-⟩|⟨f,-⟩
    . exact(Z a c).imp (Y a) id
    . exact .inl (.inr (.inr ⟨l,f,c⟩))
 have W:∀a,(X a\/ye mt mg (xB tl (tk t) { i with sv:=x,vs:=r,Cs:=n }) a)->X a\/w.heap.size<=a:=λa c=>c.elim .inl (λc=>(bY a c).imp (d.sub a) id);have Q:Fb w w' X (λa=>X a\/ye mt mg (xB tl (tk t) { i with sv:=x,vs:=r,Cs:=n }) a):=⟨e.keep.size,λa s m=>e.keep.block a ⟨s,λu=>m (d.sub a (Y a u))⟩,W⟩;have ab:∀l∈tl,l.1≠tk t->∀a,kY l.2.q l.2.sv a->w'.heap[a]?=w.heap[a]?:=λl f O a c=>e.keep.block a ⟨kY.inside (d.tab l f) c,λu=>Px (λE a F7 k s m=>F7 k m s) d.apart f z (λb=>O (by rw[b])) a c u⟩;have Wi:fS gD.val (xB tl (tk t) { i with sv:=x,vs:=r,Cs:=n })=fS gD.val tl:=(by unfold fS xB;rw[ig];apply eO;intro l f;simp only[Function.comp];split;{rename_i hs;have b:=gT hs;have C:l.2=i:=wu I (k:=tk t) (by rw[<- b];exact f) z;rw[<- C];rfl};rfl);have ac:∀a,kY i.q i.sv a->a≠mt/\a≠mg:=λa c=>⟨v.xC d.Be c,v.xC d.Bf c⟩;refine⟨?_,⟨e.keep.os,e.keep.tape,e.keep.output,e.keep.size,λa c=>e.keep.block a ⟨c.1,λu=>c.2 (Y a u)⟩⟩,bY⟩;exact
  { eW:=(Q.block p (aw d.eW) d.pX).trans d.eW
    Be:=by rw[Wi];exact d.Be.kept (e.keep.block mt ⟨d.Be.lt,λu=>(ac mt u).1 rfl⟩)
    Bf:=d.Bf.kept (e.keep.block mg ⟨d.Bf.lt,λu=>(ac mg u).2 rfl⟩)
    ne:=d.ne
    tab:=λl f=>by
     rcases zx (IG t) f with⟨rfl,-⟩|⟨f,O⟩
     . exact
        { eW:=by have:=e.eW;rw[hN]at this;exact this
          own:=e.own
          off:=e.off
          Ji:=e.Ji
          sq:=e.sq
          Mr:=bu.away v.Ji v.Mr v.c0 W
          JU:=λA L E N K M u=>by
           rcases u with b|b|b|⟨H,G,b⟩
           . exact e.zap A L E N K M b
           . exact e.zap A L E N K M (d.sub _ (.inl b))
           . exact e.zap A L E N K M (d.sub _ (.inr (.inl b)))
           . rcases zx (IG t) G with⟨rfl,-⟩|⟨G,-⟩
             . exact e.JU A L E N K M b
             . exact e.zap A L E N K M (d.sub _ (.inr (.inr ⟨H,G,b⟩)))
          XG:=uH
          fit:=by
           show fB i.cols n.flatten;rw[DW];intro ad F;rw[bP]at F;rcases F with F|F
           . exact v.fit ad F
           . exact wR ad F
          few:=am
          Et:=v.Et
          c0:=v.c0 }
     . exact(d.tab l f).stays Q (ab l f O _ (.inl rfl)) (λk hk=>ab l f O k (.inr hk))
    apart:=by
     unfold xB;refine nP.mpr (List.Pairwise.imp_of_mem (λ{l H} f G P=>?_) (d.apart.and I));intro a s m;have oR:∀R∈tl,kY R.2.q R.2.sv a->a<w.heap.size:=λR hz c=>kY.inside (d.tab R hz) c;by_cases U:l.1.sameKey (tk t)=true
     . have b:=gT U
       have D:¬H.1.sameKey (tk t)=true:=λD=>P.2 (by rw[b,gT D]);have C:l.2=i:=wu I (k:=tk t) (by rw[<- b];exact f) z;rw[aF U]at s;rw[aE D]at m;rcases Z a s with y|y
       . exact P.1 a (by rw[C];exact y) m
       . have:=oR H G m;omega
     . rw[aE U]at s
       by_cases D:H.1.sameKey (tk t)=true
       . have b:=gT D
         have C:H.2=i:=wu I (k:=tk t) (by rw[<- b];exact G) z;rw[aF D]at m;rcases Z a m with y|y
         . exact P.1 a s (by rw[C];exact y)
         . have:=oR l f s;omega
       . rw[aE D]at m
         exact P.1 a s m
    gr:=λl f=>by
     obtain⟨A,t',s,m,y,aa,V,h5⟩:=d.gr l f;by_cases b:(tk t').sameKey (tk t)=true
     . have e1:=gT b
       have C:aa=i:=wu I (k:=tk t) (by rw[<- e1];exact V) z;subst C;exact⟨A,t',s,m,y,{ aa with sv:=x,vs:=r,Cs:=n },cE.mpr ⟨_,V,by simp only[b,if_true]⟩,h5.stays Q⟩
     . exact⟨A,t',s,m,y,aa,cE.mpr ⟨_,V,by simp only[b];rfl⟩,h5.stays Q⟩
    names:=λl f=>by
     rcases zx (IG t) f with⟨rfl,-⟩|⟨f,-⟩
     . have al:=d.names (tk t,i) z
       exact al
     . exact d.names l f
    sub:=λa c=>.inr c
    oS:=λa c=>by
     rcases c with c|c
     . exact ai (d.oS a c) e.keep.size
     . rcases c with b|b|⟨l,f,c⟩
       . exact ai (d.oS a (d.sub a (.inl b))) e.keep.size
       . exact ai (d.oS a (d.sub a (.inr (.inl b)))) e.keep.size
       . rcases zx (IG t) f with⟨rfl,-⟩|⟨f,-⟩
         . rcases c with b|b
           . rw[b];exact aw e.eW
           . exact(e.own.lt a b).2
         . exact ai (kY.inside (d.tab l f) c) e.keep.size
    pX:=λc=>by
     rcases W p c with b|b
     . exact d.pX b
     . have:=aw d.eW;omega
    few:=⟨by unfold xB;rw[aQ];exact d.few.1,d.few.2⟩ }
end
section
variable {o:sE} {w w':ω} {p mt mg:Nat} {X:Nat->Prop} {tl:List (Lit×gD)} {gl:List (Lit×ot)}
theorem cQ.granted(a:cQ o w p mt mg X tl gl){t:ByteArray}(I:m.size<=8)(H:t.size<=8){r:gD}(v:(tk t,r)∈tl){g:ot}(C:lz w' 198 mg (fS ot.val (qt gl (gk m t) g)))(e:aX (λb=>b<w.heap.size/\b≠mg) w w')(O:(pW gl (gk m t)).length<8)(N:XJ w' X r.cols g){u:Ending}(G:u=τ (χ #[ι κ 0,ι κ 0])) :
 lg o w w' p mt mg X tl ((0,0),⟨fS gD.told tl,qt (fS ot.told gl) (gk m t) g.told⟩) u:=by
 have D:=a.sub mg (.inr (.inl rfl));have n:Fb w w' X X:=⟨e.size,λb j l=>e.block b ⟨j,λi=>by subst i;exact l D⟩,λ_ c=>.inl c⟩;have s:∀d∈tl,∀b,kY d.2.q d.2.sv b->w'.heap[b]?=w.heap[b]?:=λd f b c=>e.block b ⟨kY.inside (a.tab d f) c,(a.tab d f).xC a.Bf c⟩;have F:w'.heap[mt]?=w.heap[mt]?:=e.block mt ⟨a.Be.lt,a.ne⟩;have x:cQ o w' p mt mg X tl (qt gl (gk m t) g):=
  { eW:=(n.block p (aw a.eW) a.pX).trans a.eW
    Be:=a.Be.kept F
    Bf:=C
    ne:=a.ne
    tab:=λd f=>(a.tab d f).stays n (s d f _ (.inl rfl)) (λk E=>s d f k (.inr E))
    apart:=a.apart
    gr:=λd f=>by
     rcases zt f with rfl|f
     . exact⟨m,t,rfl,I,H,r,v,N⟩
     . obtain⟨M,K,j,l,y,L,z,A⟩:=a.gr d (nX f)
       exact⟨M,K,j,l,y,L,z,A.stays n⟩
    names:=a.names
    sub:=a.sub
    oS:=λb c=>ai (a.oS b c) e.size
    pX:=a.pX
    few:=⟨a.few.1,by rw[Ve];omega⟩ }
 refine⟨G,tl,qt gl (gk m t) g,?_,x.again,⟨e.os,e.tape,e.output,e.size,λb c=>e.block b ⟨c.1,λi=>c.2 (.inr (.inl i))⟩⟩,λb c=>.inl c⟩;unfold cO;rw[<- zr]
theorem cQ.dropped(b:cQ o w p mt mg X tl gl){t:ByteArray}{j:List (Lit×ot)}(u:j.Sublist gl)(A:∀d∈j,∀y:ByteArray,y.size<=8->d.1≠gk y t)(I:lz w' 9 mt (fS gD.val (pW tl (tk t))))(H:lz w' 198 mg (fS ot.val j))(i:aX (λa=>a<w.heap.size/\a≠mt/\a≠mg) w w'){v:Ending}(N:v=τ (χ #[ι κ 0,ι κ 0])) :
 lg o w w' p mt mg X tl ((0,0),⟨pW (fS gD.told tl) (tk t),fS ot.told j⟩) v:=by
 have K:=b.sub mg (.inr (.inl rfl));have L:=b.sub mt (.inl rfl);have n:Fb w w' X X:=⟨i.size,λa m l=>i.block a ⟨m,λe=>by subst e;exact l L,λe=>by subst e;exact l K⟩,λ_ c=>.inl c⟩;have s:∀d∈tl,∀a,kY d.2.q d.2.sv a->w'.heap[a]?=w.heap[a]?:=λd f a c=>i.block a ⟨kY.inside (b.tab d f) c,(b.tab d f).xC b.Be c,(b.tab d f).xC b.Bf c⟩;have r:∀a,ye mt mg (pW tl (tk t)) a->ye mt mg tl a:=λa c=>by
  rcases c with e|e|⟨d,f,c⟩
  . exact .inl e
  . exact .inr (.inl e)
  . exact .inr (.inr ⟨d,nX f,c⟩)
 have D:cQ o w' p mt mg X (pW tl (tk t)) j:=
  { eW:=(n.block p (aw b.eW) b.pX).trans b.eW
    Be:=I
    Bf:=H
    ne:=b.ne
    tab:=λd f=>(b.tab d (nX f)).stays n (s d (nX f) _ (.inl rfl)) (λk M=>s d (nX f) k (.inr M))
    apart:=b.apart.filter _
    gr:=λd f=>by
     obtain⟨z,x,m,l,E,O,F,G⟩:=b.gr d (u.subset f);have C:x≠t:=λe=>A d f z l (by rw[m,e]);exact⟨z,x,m,l,E,O,afP F (λe=>C (akm e)),G.stays n⟩
    names:=λd f=>b.names d (nX f)
    sub:=λa c=>b.sub a (r a c)
    oS:=λa c=>ai (b.oS a c) i.size
    pX:=b.pX
    few:=⟨ag (fH _ _) b.few.1,ag u.length_le b.few.2⟩ }
 refine⟨N,pW tl (tk t),j,?_,D.again,⟨i.os,i.tape,i.output,i.size,λa c=>i.block a ⟨c.1,λe=>c.2 (.inl e),λe=>c.2 (.inr (.inl e))⟩⟩,λa c=>.inl (r a c)⟩;unfold cO;rw[wm]
end
section
variable {o:sE} {w w1 w2:ω} {p mt mg:Nat} {X:Nat->Prop} {tl:List (Lit×gD)} {gl:List (Lit×ot)}
theorem Dh.adds{a:gD}(b:Dh o w X a)(e:∀c,X c->c<w.heap.size)(d:∀c,kY a.q a.sv c->X c):oY X w w a.q 0 a.cols a.cv a.sv a.sv a.vs a.Cs (a.Cs.flatten.length:Nat) where
 eW:=b.eW
 Ji:=b.Ji
 own:=b.own
 sq:=b.sq
 row:=λ_ f=>.inl f
 off:=b.off
 Mr:=b.Mr.mono d
 JU:=λj i=>(b.JU j i).mono d
 keep:=aX.refl _ _
 lq:=aw b.eW
 zap:=b.JU
 zin:=e
theorem cQ.wide(c:cQ o w p mt mg X tl gl)(d:δ w.heap.size w w1){k:Nat}(j:w.heap.size<=k)(l:k<w1.heap.size):cQ o w1 p mt mg (λa=>X a\/a=k) tl gl:=
 c.stays ⟨d.size,λa e _=>d.block a e,λa b=>b.imp id (λi=>by omega)⟩ (λa f=>d.block a (c.oS a (c.sub a f))) (λa b=>.inl b) (λa b=>by
  rcases b with b|b
  . exact ai (c.oS a b) d.size
  . omega)
theorem ab3(v:cQ o w p mt mg X tl gl)(b:δ w.heap.size w w1){k:Nat}(L:w.heap.size<=k)(P:k<w1.heap.size){t:ByteArray}{d:gD}(O:(tk t,d)∈tl){l:List (List (List aD))}{new:List (List aD)}(I:oY (λa=>X a\/a=k) w1 w2 d.q 0 d.cols d.cv d.sv x r l j)(K:j=l.flatten.length)(R:nG o.seg l)(y:l.flatten=d.Cs.flatten++new)(U:fB d.cols new)(H:l.flatten.length<=64){W9:ω}(s:W9=(w2.setCell ⟨k,0,ν⟩ n).setCell ⟨k,1,ν⟩ c){C:Ending}(N:C=τ (χ #[ι κ (0:Nat),ι κ (0:Nat)])) :
 lg o w W9 p mt mg X tl ((0,0),⟨xB (fS gD.told tl) (tk t) (d.cols,d.Cs.flatten++new),fS ot.told gl⟩) C:=by
 obtain⟨z,m,A⟩:=(v.wide b L P).loaded O I K R y U H;have Q:W9.heap.size=w2.heap.size:=by rw[s];simp[World.setCell]
 have u:∀a,a≠k->W9.heap[a]?=w2.heap[a]?:=λa b=>by rw[s];exact(ay _ _ _ _ b).trans (ay _ _ _ _ b)
 have M:∀a,ye mt mg tl a->a≠k:=λa e=>by have:=v.oS a (v.sub a e);omega
 have E:∀a,ye mt mg (xB tl (tk t) { d with sv:=x,vs:=r,Cs:=l }) a->a≠k:=λa e=>by
  rcases A a e with i|i
  . exact M a i
  . omega
 have G:=z.stays (w':=W9) (X':=λa=>(X a\/a=k)\/ye mt mg (xB tl (tk t) { d with sv:=x,vs:=r,Cs:=l }) a) ⟨by omega,λa _ f=>u a (λi=>f (.inl (.inr i))),λa f=>.inl f⟩ (λa e=>u a (E a e)) (λa f=>f) (λa f=>by rw[Q];exact z.oS a f);refine⟨N,_,gl,?_,G.shrink (λa f=>f.imp .inl id) (λa e=>.inr e),?_,λa e=>?_⟩;{unfold cO;rw[<- abZ];unfold gD.told;rw[<- y]};{refine⟨?_,?_,?_,?_,λa D=>?_⟩;{rw[s];exact m.os.trans b.os};{rw[s];exact m.tape.trans b.tape};{rw[s];exact m.output.trans b.output};{have:=m.size;have:=b.size;omega};have F:=D.1;have:=b.size;exact(u a (by omega)).trans ((m.block a ⟨by omega,D.2⟩).trans (b.block a F))};rcases A a e with i|i;{exact .inl i};have:=b.size;exact .inr (by omega)
end
theorem PB:∀{d:List Al} {cols:List br},wq d cols=ν->d.length=cols.length->∀(a:Nat) (b:Al) (c:br),d[a]?=σ b->cols[a]?=σ c->b.null=true\/b.kind=(c.2:Int)
 |[],_,_,_,a,b,c,hv,_=>by simp at hv
 |v0::r,[],_,hl,_,_,_,_,_=>by simp at hl
 |v0::r,c0::l,h,hl,a,b,c,hv,hc=>by
   unfold wq at h;split at h
   . cases h
   . rename_i e
     cases a with
     |zero=>
       simp at hv hc;subst hv;subst hc
       cases Kr:v0.null with
       |true=>exact .inl rfl
       |false=>exact .inr (by simpa[Kr]using e)
     |succ a=>exact PB h (by simpa using hl) a b c (by simpa using hv) (by simpa using hc)
theorem Ff{a:uU}{cols:List br}(m:Aa a)(b:fY a cols=ν):a.vals.length=cols.length/\BD cols (IB a):=by unfold fY at b;split at b;{cases b};rename_i l;have d:a.vals.length=cols.length:=(by simpa using l);refine⟨d,?_⟩;have i:=PB b d;refine⟨by unfold IB;simpa using d,λn r k c j=>?_⟩;unfold IB at c;rw[aV]at c;obtain⟨f,e,rfl⟩:=dF.mp c;exact Ae (m.2.1 f (aA e)) (i n f k e j)
def Left(o:sE)(w w':ω)(p mt mg:Nat)(X:Nat->Prop)(tl:List (Lit×gD))(st:pG):Prop:=
 ∃Pv AH,cO Pv AH=st/\cQ o w' p mt mg (λb=>X b\/ye mt mg Pv b) Pv AH/\aX (λb=>b<w.heap.size/\¬ye mt mg tl b) w w'/\∀b,ye mt mg Pv b->ye mt mg tl b\/w.heap.size<=b
section
variable {o:sE} {w w1 w2 W9:ω} {p mt mg:Nat} {X:Nat->Prop} {tl:List (Lit×gD)} {gl:List (Lit×ot)} {st:pG}
theorem Left.same(a:cQ o w p mt mg X tl gl)(b:δ w.heap.size w w1):Left o w w1 p mt mg X tl (cO tl gl):=(a.same b (0,0) rfl).2
theorem Left.ends(m:cQ o w p mt mg X tl gl)(d:δ w.heap.size w w1){k:Nat}(C:w.heap.size<=k)(D:k<w1.heap.size)(y:Left o w1 w2 p mt mg (λa=>X a\/a=k) tl st)(c:aX (λa=>a<w2.heap.size/\a≠k) w2 W9):Left o w W9 p mt mg X tl st:=by
 obtain⟨j,s,z,l,i,n⟩:=y;have A:∀a,ye mt mg tl a->a≠k:=λa b=>by have:=m.oS a (m.sub a b);omega
 have u:∀a,ye mt mg j a->a≠k:=λa b=>by
  rcases n a b with f|f
  . exact A a f
  . omega
 have x:=l.stays (w':=W9) (X':=λa=>(X a\/a=k)\/ye mt mg j a) ⟨c.size,λa d e=>c.block a ⟨d,λf=>e (.inl (.inr f))⟩,λa e=>.inl e⟩ (λa b=>c.block a ⟨l.oS a (.inr b),u a b⟩) (λa e=>e) (λa e=>ai (l.oS a e) c.size);refine⟨j,s,z,x.shrink (λa e=>e.imp .inl id) (λa b=>.inr b),⟨c.os.trans (i.os.trans d.os),c.tape.trans (i.tape.trans d.tape),c.output.trans (i.output.trans d.output),ag d.size (ag i.size c.size),λa r=>?_⟩,λa b=>?_⟩;{have v:=r.1;have:=d.size;have:=i.size;exact(c.block a ⟨by omega,by omega⟩).trans ((i.block a ⟨by omega,r.2⟩).trans (d.block a v))};rcases n a b with f|f;{exact .inl f};have:=d.size;exact .inr (by omega)
end
def afV(a:Tj):υ:=.tuple #[θ ⟨a.1.toArray⟩,χ #[ι κ (a.2.1:Nat),ι κ (a.2.2:Nat)]]
noncomputable def sw (bud:Nat)(st:pG)(user:ByteArray)(c:Bi):Tj×pG:=
 match c with
 |.query ss=>(match ss with|s::r=>Di bud st user s.pl s.table r|[]=>([],0,0),st)
 |c=>if iZ user iV then(([],(lB st c).1.1,(lB st c).1.2),(lB st c).2)else(([],4,0),st)
theorem xD{bud:Nat}{st:pG}{user:ByteArray}{a:Bi}(b:¬300<m.size)(c:iG m=.inl a):sF bud st user m=sw bud st user a:=by unfold sF;rw[aE b,c];cases a<;>rfl
theorem Dl{st:pG}{q:Nat×Nat}(a:¬300<l.size)(b:iG l=.inr q):sF v st m l=(([],q.1,q.2),st):=by unfold sF;rw[aE a,b]
theorem qw{o:sE}{w:ω}{p mt mg:Nat}{X:Nat->Prop}{tl:List (Lit×gD)}{gl:List (Lit×ot)}(r:cQ o w p mt mg X tl gl){user:ByteArray}{res:(Nat×Nat)×pG}
 (V:∀w,(Instr.typeAssert (.iface e x) 74 113 true).run prog w=.ok (.tuple #[χ #[ι κ 0,θ ⟨#[]⟩,ι κ 0,ψ ν 0 0],.bool false]) w)
 (W:∀w,(Instr.typeAssert (.iface e x) 74 116 true).run prog w=.ok (.tuple #[.iface e x,.bool true]) w)
 (C:∀w,Sem.run prog (method 566 e x "quarry/quarry.apply") w=.ok (v,x) w) (N:∀(A:Array υ) (w:ω),Sem.run prog (callFunc v A) w=.ok (.enter v A) w)
 (D:∀w1 z,δ w.heap.size w w1->cQ o w1 p mt mg z tl gl->Calls prog v #[x,π (σ ⟨p,0,ν⟩)] w1 λj w'=>lg o w1 w' p mt mg z tl res j) :
 Calls prog 29 #[π (σ ⟨p,0,ν⟩),θ user,.iface e x] w λj w'=>j=τ (afV (if iZ user iV then([],res.1.1,res.1.2)else([],4,0)))/\Left o w w' p mt mg X tl (if iZ user iV then res.2 else cO tl gl):=by
 obtain⟨y,f⟩:=nm (w.alloc (gY 0 0));have i:=oJ f;have a:y.heap[w.heap.size]?=σ (gY 0 0):=by rw[f];exact au w _
 have E:=ak (D y _ i (r.wide i (ae _) (aw a)));have d:=ak r;have L:=ak i;have G:=ak f;have F:=ak a;obtain⟨P,Q⟩:=bq a;have z0:=eR a 0;have z1:=eR a 1;have u:=aw a;clear r i f a D
 cases he:iZ user iV with
 |false=>
   have I:(user.toList==[97,100,109,105,110])=false:=by rw[dK];exact he
   have l:Hid (Left o w (w.alloc (gY 4 0)) p mt mg X tl (cO tl gl)):=ak (Left.same d.J ((ah _ _).alloc (ae _) _));have K:=bq (au w (gY 4 0));obtain⟨m,n⟩:=K;clear he;go_in;go_wp2_with fail;refine aB (by simp[results,results29,go_sem,m,n];rfl) rfl ?_;exact⟨rfl,l.J⟩
 |true=>
   have I:(user.toList==[97,100,109,105,110])=true:=by rw[dK];exact he
   clear he;go_in;go_wp2_with fail;rw[<- G.J];refine E.J.mono ?_;rintro j w2 ⟨rfl,s⟩;have b:w2.heap[w.heap.size]?=σ (gY 0 0):=by
    obtain⟨O,M,-,-,c,-⟩:=s;refine(c.block _ ⟨u,λC=>?_⟩).trans F.J;have:=d.J.oS _ (d.J.sub _ C);omega
   obtain⟨R,U⟩:=bq b;have Y:=eR b 0;have Z:=eR b 1;have yo:=aw b;have l:Hid (Left o w ((w2.setCell ⟨w.heap.size,0,ν⟩ (ι κ (res.1.1:Nat))).setCell ⟨w.heap.size,1,ν⟩ (ι κ (res.1.2:Nat))) p mt mg X tl res.2):=ak (Left.ends d.J L.J (ae _) u s (((aX.refl _ _).setCell (λc=>c.2 rfl) _).setCell (λc=>c.2 rfl) _));have H:=ak b;clear s b;go_wp2_with fail;obtain⟨m,n⟩:=bq (aN _ _ 1 _ _ (ι κ (res.1.2:Nat)) (aN _ _ 0 _ _ (ι κ (res.1.1:Nat)) H.J));refine aB (by simp[results,results29,go_sem,m,n];rfl) rfl ?_;exact⟨rfl,l.J⟩
theorem Fg(w:ω)(a b c:Obj):((w.alloc a).alloc b |>.alloc c).heap[w.heap.size]?=σ a/\((w.alloc a).alloc b |>.alloc c).heap[w.heap.size+1]?=σ b/\((w.alloc a).alloc b |>.alloc c).heap[w.heap.size+2]?=σ c:=by
 have f:(w.alloc a).heap.size=w.heap.size+1:=by simp
 have i:((w.alloc a).alloc b).heap.size=w.heap.size+2:=by simp
 have d:=au (w.alloc a) b;have e:=au ((w.alloc a).alloc b) c;rw[f]at d;rw[i]at e;exact⟨(dZ _ c (by omega)).trans ((dZ _ b (by omega)).trans (au w a)),(dZ _ c (by omega)).trans d,e⟩
theorem MU{w w1:ω}{t:TypeId}(c:δ w.heap.size w w1)(d:w.heap.size<=v)(e:w1.heap[v]?=σ (ξ #[x,n] t (0,0)))(a b:υ)(o:Obj):((((w1.setCell (Ad v 0) a).setCell (Ad v 1) b).alloc o).drew.cell? (Ad v 0)=σ a/\(((w1.setCell (Ad v 0) a).setCell (Ad v 1) b).alloc o).drew.cell? (Ad v 1)=σ b)/\δ w.heap.size w (((w1.setCell (Ad v 0) a).setCell (Ad v 1) b).alloc o).drew:=by refine⟨amG e o,aH (((c.setCell d _).setCell d _).alloc ?_ _)⟩;simpa[World.setCell]using c.size
theorem gE{w w1:ω}{t:TypeId}(e:δ w.heap.size w w1)(c:w.heap.size<=v)(d:w1.heap[v]?=σ (ξ #[x,n] t (0,0)))(a b:υ):(((w1.setCell (Ad v 0) a).setCell (Ad v 1) b).cell? (Ad v 0)=σ a/\((w1.setCell (Ad v 0) a).setCell (Ad v 1) b).cell? (Ad v 1)=σ b)/\δ w.heap.size w ((w1.setCell (Ad v 0) a).setCell (Ad v 1) b):=
 ⟨bq (t:=t) (aN _ _ 1 _ _ _ (aN _ _ 0 _ _ _ d)),(e.setCell c _).setCell c _⟩
theorem Tx{o:sE}{w:ω}{p mt mg:Nat}{X:Nat->Prop}{tl:List (Lit×gD)}{gl:List (Lit×ot)}(i:cQ o w p mt mg X tl gl){a t:Nm}(hu:nw a)(ht:nw t) :
 Calls prog 276 #[χ #[θ a.1,ι κ a.2,θ t.1,ι κ t.2],π (σ ⟨p,0,ν⟩)] w λal w'=>lg o w w' p mt mg X tl (uM (cO tl gl) a t) al:=by
 have W:(8:Nat)<=maxLen:=by unfold maxLen;omega
 have L:=ag hu.1 W;have F:=ag ht.1 W;obtain⟨s0,s1,s2,s3,s4,s5,s6,s7⟩:=eE i.eW;have hp:=aw i.eW;obtain⟨b,n⟩:=nm (((w.alloc (ξ #[θ a.1,ι κ a.2,θ t.1,ι κ t.2] 136)).alloc (gY 0 0)).alloc (obX a.1 t.1));have D:=ar7 n;have yZ:b.heap.size=w.heap.size+3:=by rw[n];simp
 have v:b.heap[w.heap.size]?=σ (ξ #[θ a.1,ι κ a.2,θ t.1,ι κ t.2] 136 (0,0))/\b.heap[w.heap.size+1]?=σ (gY 0 0)/\b.heap[w.heap.size+2]?=σ (obX a.1 t.1):=by rw[n];exact Fg w _ _ _
 have Q:=ak (λwr (c:δ b.heap.size b wr)=>(show cQ o wr p mt mg X tl gl/\δ w.heap.size w wr/\wr.heap[w.heap.size]?=σ (ξ #[θ a.1,ι κ a.2,θ t.1,ι κ t.2] 136 (0,0))/\wr.heap[w.heap.size+1]?=σ (gY 0 0)/\wr.heap[w.heap.size+1+1]?=σ (obX a.1 t.1)from by
  have h1:=D.trans (c.mono (by omega));exact⟨i.below h1,h1,(c.block _ (by omega)).trans v.1,(c.block _ (by omega)).trans v.2.1,(c.block _ (by omega)).trans v.2.2⟩))
 have U:=ak n;obtain⟨m,-,A,e,C⟩:=Q.J b (ah _ _);obtain⟨c0,c1,c2,c3⟩:=eo A;obtain⟨k0,k1⟩:=bq C;obtain⟨f0,f1⟩:=bq e;have z0:=eR e 0;have z1:=eR e 1;have jl:=ak e;have qg:=ak D;obtain⟨e0,e1,e2,e3,e4,e5,e6,e7⟩:=eE m.eW;have ao:=aw m.eW;have EO:=aw A;have j:=aw e;have an:=aw C;have r:=(m.below (aH (ah _ _))).Le L F;have s:=(m.below (aH ((ah _ _).alloc (ae _) (obR ν 0 0 .nilFunc)))).Le L F;have av:=nC;have R:=ak i
 cases hg:eU gl (gk a.1 t.1)with
 |none=>
   simp only[hg]at r s;have zg:Hid (uM (cO tl gl) a t=((5,a.2),cO tl gl)):=ak (by unfold uM cO;simp only;rw[gU,hg];rfl);clear i n D v m A e C hg yZ;go_in;go_wp2_with fail;rw[<- U.J];go_region
   all_goals
    (try go_wp2_with fail)
    obtain⟨⟨H,I⟩,d2⟩:=MU qg.J (bE _) jl.J (ι κ 5) (ι κ a.2) (obR ν 0 0 .nilFunc);refine aB (by simp[results,results276,go_sem,H,I];rfl) rfl ?_;rw[zg.J];exact R.J.same d2 (5,a.2) rfl
 |some g=>
   simp only[hg]at r s;unfold ot.val at r s;obtain⟨u',t',u,aq,ap,ax,Ar,O⟩:=i.gr _ (mG hg);obtain⟨sa,lL,P⟩:=bu.slice O.shr;have Ou:=O.work;obtain⟨N,M,Z,-⟩:=Ou;rw[P,Z]at r s;have ar:=iP N M;have HG:Hid (uM (cO tl gl) a t=((0,0),cO tl (pW gl (gk a.1 t.1)))):=ak (by
    unfold uM cO;simp only;rw[gU,hg,wm];rfl)
   have V:=ak (aH ((ah b.heap.size b).alloc (ae _) (obR sa g.sh.length lL (.func (.func N) #[] M))));clear i n D v m A e C hg yZ O u Ar P Z;go_in;go_wp2_with fail;rw[<- U.J];go_region
   all_goals
    (try go_wp2_with fail)
    obtain⟨Y,qM⟩:=nm ((b.alloc (obR sa g.sh.length lL (.func (.func N) #[] M))).drew);rw[<- qM]at V ⊢;obtain⟨E,aa,-,y,np⟩:=Q.J Y V.J;have z:=E.below (aH (ah _ _));obtain⟨w5,Tp,K,d⟩:=z.Bf.del Tryz.sT underlying71 (IA L F) 0;rw[wm]at K;have G:w.heap.size+1≠mg:=λf=>z.Bf.nD (by rw[<- f];exact y);have x:=(d.block (w.heap.size+1) (aw y) (λf=>G (bf f))).trans y;obtain⟨g0,g1⟩:=bq x;have y0:=eR x 0;have y1:=eR x 1;obtain⟨m0,m1,m2,m3,m4,m5,m6,m7⟩:=eE E.eW;obtain⟨n0,n1⟩:=bq np;have HM:=ak K;have ac:=ak G;have am:=ak z.Bf.lt;have ab:=ak x;have RL:=ak d;have Zg:=ak aa;clear G qM E z K x y np d aa e0 e1 e2 e3 e4 e5 e6 e7 c0 c1 c2 c3 k0 k1 f0 f1 z0 z1 r s;go_region
    all_goals
     (try go_wp2_with fail)
     obtain⟨H,I⟩:=bq (aN _ _ 1 _ _ (ι κ 0) (aN _ _ 0 _ _ (ι κ 0) ab.J));refine aB (by simp[results,results276,go_sem,H,I];rfl) rfl ?_;rw[HG.J];have j:=Zg.J;have d:=RL.J;have ad:aX (λl=>l<w.heap.size/\l≠mg) w w5:=aX.trans (b:=Y.drew) ⟨j.os,j.tape,j.output,j.size,λl c=>j.block l c.1⟩ ⟨d.os,d.tape,d.output,d.size,λl c=>d.block l (ai c.1 j.size) (λf=>c.2 (bf f))⟩;have fE:mg≠w.heap.size+1:=λf=>ac.J f.symm;exact R.J.lost (f:=(0,0)) List.filter_sublist (HM.J.kept ((ay _ _ _ _ fE).trans (ay _ _ _ _ fE))) ((ad.setCell (λu=>by have:=u.1;simp at this;omega) _).setCell (λu=>by have:=u.1;simp at this;omega) _) rfl
theorem Tz{o:sE}{w:ω}{p mt mg:Nat}{X:Nat->Prop}{tl:List (Lit×gD)}{gl:List (Lit×ot)}(h:cQ o w p mt mg X tl gl){t:Nm}(ht:nw t){cols:List (Nm×Nat)}(FG:cols≠[])(LL:∀a∈cols,nw a.1/\a.2<=2)(yu:cols.length<=302)(N:bu w 3 x cols.length (Vf cols)) :
 Calls prog 278 #[χ #[θ t.1,ι κ t.2,x],π (σ (Ad p 0))] w λbo w'=>lg o w w' p mt mg X tl (qv (cO tl gl) t cols) bo:=by
 have Gl:t.1.size<=maxLen:=by have:=ht.1;unfold maxLen;omega
 obtain⟨P,H,rfl⟩:=bu.slice N;obtain⟨f,M⟩:=nm ((w.alloc (Zo t.1 t.2 P cols.length H)).alloc (gY 0 0));have ia:=vC M;have yZ:f.heap.size=w.heap.size+2:=by rw[M];simp
 have jF:f.heap[w.heap.size]?=σ (Zo t.1 t.2 P cols.length H)/\f.heap[w.heap.size+1]?=σ (gY 0 0):=by
  rw[M];have U:=au (w.alloc (Zo t.1 t.2 P cols.length H)) (gY 0 0);rw[show(w.alloc (Zo t.1 t.2 P cols.length H)).heap.size=w.heap.size+1 by simp]at U;exact⟨(dZ _ _ (by simp)).trans (au w _),U⟩
 have HB:=ak (λwr (i:δ f.heap.size f wr)=>(show cQ o wr p mt mg X tl gl/\δ w.heap.size w wr/\wr.heap[w.heap.size]?=σ (Zo t.1 t.2 P cols.length H)/\wr.heap[w.heap.size+1]?=σ (gY 0 0)/\bu wr 3 (ψ P cols.length H) cols.length (Vf cols)from by
  have I:=ia.trans (i.mono (by omega));exact⟨h.below I,I,(i.block _ (by omega)).trans jF.1,(i.block _ (by omega)).trans jF.2,bu.below N I (ae _)⟩))
 have HW:=ak M;obtain⟨K,-,y,e,-⟩:=HB.J f (ah _ _);obtain⟨c0,c1,c2⟩:=aY y;obtain⟨f0,f1⟩:=bq e;have z0:=eR e 0;have z1:=eR e 1;obtain⟨e0,e1,U,e3,e4,e5,e6,e7⟩:=eE K.eW;have bx:=aw K.eW;have EO:=aw y;have yo:=aw e;have Z:=K.find Gl;have qh:=(K.below (aH (ah _ _))).find Gl;have F:=ak h;have jl:=ak e;have qg:=ak ia
 cases hg:eU tl (tk t.1)with
 |some tc=>
   simp only[hg]at Z qh;unfold gD.val at Z qh;have v:Hid (qv (cO tl gl) t cols=((6,t.2),cO tl gl)):=ak (by unfold qv cO;simp only;rw[gU,hg];rfl);clear h M ia jF K y e hg yZ N;go_in;go_wp2_with fail;rw[<- HW.J];go_region
   all_goals
    (try go_wp2_with fail)
    obtain⟨⟨z,A⟩,E⟩:=gE (w1:=f) qg.J (bE _) jl.J (ι κ 6) (ι κ t.2);refine aB (by simp[results,results278,go_sem,z,A];rfl) rfl ?_;rw[v.J];exact F.J.same (aH E) (6,t.2) rfl
 |none=>
   simp only[hg]at Z qh;clear h M ia jF K y e yZ N;go_in;go_wp2_with fail;rw[<- HW.J];have ap:Hid (qv (cO tl gl) t cols=match zw cols []with|.inl c=>((6,c),cO tl gl)|.inr ao=>if 4<=tl.length\/5<ao.length then((8,0),cO tl gl)else((0,0),⟨qt (fS gD.told tl) (tk t.1) (ao,[]),fS ot.told gl⟩)):=ak (by
    unfold qv cO;simp only;rw[gU,hg]
    cases zw cols []with
    |inl c=>rfl
    |inr ao=>simp[fS])
   have HG:=ak hg;have a1:=ak LL;obtain⟨i0,yG,lC,lI,kQ⟩:=iC Tryz.Hw;clear hg LL;go_region
   all_goals
    (try go_wp2_with fail)
    have a2:Hid (δ f.heap.size f f.drew):=ak (aH (ah _ _));clear Z qh c0 c1 c2 f0 f1 z0 z1 e0 e1 U e3 e4 e5 e6 e7;go_loopw[5,24] (λx a wr=>∃(d:Nat) (b:List br),d<=cols.length/\Hid (b.length=d)/\a=ι κ d/\Hid (zw cols []=zw (cols.drop d) b)/\Hid (∀D∈b,D.1.size<=8/\D.2<=2)/\Hid (wr.ownsRow f.heap.size 202 2 x b.length (b.flatMap mP))/\Hid (δ f.heap.size f wr)) (λ_ a _=>cols.length - (intOf a).toNat)
    case atStart=>exact⟨0,[],aK _,ak rfl,rfl,ak rfl,ak (λD l=>by simp at l),ak ⟨rfl,.inl ⟨rfl,rfl⟩⟩,a2⟩
    case round=>
     obtain⟨d,b,hi,R,rfl,Xo,aq,am,sM⟩:=hrel;obtain⟨L,lM,y,e,JT⟩:=HB.J wr sM.J;by_cases cL:d<cols.length
     . have ju:(d:Int)<cols.length:=by omega
       obtain⟨a,O⟩:∃a,cols[d]?=σ a:=⟨_,af cL⟩;have Y0:=ak (a1.J a (aA O));have RF:cols.drop d=a::cols.drop (d+1):=by rw[cA cL];congr 1;exact(aj.mp O).2
       have PH:Hid (zw cols []=if 0<=yg b a.1.1 then .inl a.1.2 else zw (cols.drop (d+1)) (b++[(a.1.1,a.2)])):=ak (by rw[Xo.J,RF];rfl);obtain⟨vg,vo,xW,he,-,bY,l⟩:=bu.at JT (by omega)
       cases he
       have x0:wr.cell? (Ad vg (vo+d*3))=σ (θ a.1.1):=l (d*3) _ (dy XR 3 (λ_=>rfl) cols O (j:=0) (by decide));have x1:wr.cell? (Ad vg (vo+d*3+1))=σ (ι κ a.1.2):=l (d*3+1) _ (dy XR 3 (λ_=>rfl) cols O (j:=1) (by decide));have x2:wr.cell? (Ad vg (vo+d*3+2))=σ (ι κ a.2):=l (d*3+2) _ (dy XR 3 (λ_=>rfl) cols O (j:=2) (by decide));obtain⟨W1,oH⟩:=nm (wr.alloc (ξ #[θ a.1.1,ι κ a.1.2,ι κ a.2] 168));have lx:=oJ oH;have mq:W1.heap[wr.heap.size]?=σ (ξ #[θ a.1.1,ι κ a.1.2,ι κ a.2] 168 (0,0)):=by rw[oH];exact au wr _
       have r:=am.J;obtain⟨u,m,rfl,-,-⟩:=cu r;have XY:=cq r lx;have a4:=ak (Cj b (ψ u b.length m) a.1.1 W1 (bu.eY XY) (by rw[R.J];omega));have Qq:=ak XY;have qW:=ak mq;have IL:=ak (sM.J.trans (lx.mono sM.J.size));have B6:=ak oH;clear L lM y e JT l oH lx mq r XY O RF;go_wp2_with fail;rw[<- B6.J];refine a4.J.mono ?_;rintro j w2 ⟨rfl,e⟩;have np:=(e.block _ (aw qW.J)).trans qW.J;obtain⟨k0,k1,k2⟩:=aY np;have oW:=IL.J.trans (e.mono IL.J.size);have ZM:=oW.size;have xQ:=ak (cq Qq.J e);have D7:=aw np;obtain⟨Az,Fh,-,Q,-⟩:=HB.J w2 oW;obtain⟨f0,f1⟩:=bq Q;have z0:=eR Q 0;have z1:=eR Q 1;have Dw:=ak Q;have Zg:=ak Fh;have IQ:=ak oW;clear e np oW Az Fh Q x0 x1 x2;by_cases YR:0<=yg b a.1.1
       . have a6:(yg b a.1.1>=0):=YR
         have v:Hid (qv (cO tl gl) t cols=((6,a.1.2),cO tl gl)):=ak (by rw[ap.J,PH.J,aF YR]);go_wp2_with fail;obtain⟨⟨z,A⟩,E⟩:=gE Zg.J (bE _) Dw.J (ι κ 6) (ι κ a.1.2);refine aB (by simp[results,results278,go_sem,z,A];rfl) rfl ?_;rw[v.J];exact F.J.same E (6,a.1.2) rfl
       . have a6:¬(yg b a.1.1>=0):=YR
         have ar:Hid (zw cols []=zw (cols.drop (d+1)) (b++[(a.1.1,a.2)])):=ak (by rw[PH.J,aE YR]);have yn:=ak (xQ.J.alloc (YO a.1.1 a.2));have uj:=ak (World.news_of_block (w:=w2.alloc (YO a.1.1 a.2)) (B:=w2.heap.size) (au w2 (YO a.1.1 a.2)));have Wm:Hid (b.length+1<=maxLen):=ak (by rw[R.J];unfold maxLen;omega);have OZ:Hid ((b.length+1)*24<=140737488355328):=ak (by rw[R.J];omega);have Jk:Hid (f.heap.size<=(w2.alloc (YO a.1.1 a.2)).heap.size):=ak (by simp;omega);go_wp2_with(at_builtin;refine qC _ rfl _ _ 149 rfl f.heap.size 202 i0 _ 2 24 underlying149 yG lC lI kQ rfl (by decide) (ψ u b.length m) b.length (b.flatMap mP) rfl yn.J (Ad w2.heap.size 0) 1 1 (mP (a.1.1,a.2)) rfl rfl uj.J (Mu _) Wm.J OZ.J Jk.J ?_);intro v' w3 oG j9 _;have uk:Hid (w3.ownsRow f.heap.size 202 2 v' (b++[(a.1.1,a.2)]).length ((b++[(a.1.1,a.2)]).flatMap mP)):=ak (by rw[az,eN,qE];exact oG);have nF:Hid (δ f.heap.size f w3):=ak (((IQ.J.alloc ZM _)).grown j9 Jk.J (λk V=>(yn.J.lt k V).1));have av:Hid ((b++[(a.1.1,a.2)]).length=d+1):=ak (by rw[az,R.J];rfl);have ax:Hid (∀D∈b++[(a.1.1,a.2)],D.1.size<=8/\D.2<=2):=ak (λD l=>by
          rw[bP,bj]at l;rcases l with l|rfl
          . exact aq.J D l
          . exact⟨Y0.J.1.1,Y0.J.2⟩)
         clear oG j9;go_wp2_with fail
         first
         |exact⟨⟨d+1,_,by omega,av,by go_num,ar,ax,uk,nF⟩,by simp[intOf];omega⟩
         | (go_roundw
            case rel=>exact⟨d+1,_,by omega,av,by go_num,ar,ax,uk,nF⟩
            case measure=>simp[intOf];omega)
     . obtain rfl:d=cols.length:=by omega
       have v:Hid (qv (cO tl gl) t cols=if 4<=tl.length\/5<b.length then((8,0),cO tl gl)else((0,0),⟨qt (fS gD.told tl) (tk t.1) (b,[]),fS ot.told gl⟩)):=ak (by rw[ap.J,Xo.J,fC];rfl);have KM:(fS gD.val tl).length=tl.length:=by unfold fS;rw[aQ]
       have an:=λty=>L.Be.len underlying70 ty;rw[KM]at an;have bt:=an 3;obtain⟨e0,e1,U,e3,e4,e5,e6,e7⟩:=eE L.eW;obtain⟨c0,c1,c2⟩:=aY y;obtain⟨f0,f1⟩:=bq e;have z0:=eR e 0;have z1:=eR e 1;have r:=am.J;obtain⟨u,m,bd,bw,-⟩:=cu r;have SH:=ak L;have G:=ak e;have al:=ak lM;have SF:=aw L.eW;have bS:=aw y;have bv:=aw e;subst bd;clear L lM y e JT an r;by_cases hA:4<=tl.length
       . have a9:((tl.length:Nat):Int)>=4:=by omega
         rw[aF (.inl hA)]at v;go_wp2_with fail;obtain⟨⟨z,A⟩,E⟩:=gE al.J (bE _) G.J (ι κ 8) (ι κ 0);refine aB (by simp[results,results278,go_sem,z,A];rfl) rfl ?_;rw[v.J];exact F.J.same E (8,0) rfl
       . have a9:¬((tl.length:Nat):Int)>=4:=by omega
         by_cases hC:5<b.length
         . have ba:((b.length:Nat):Int)>5:=by omega
           rw[aF (.inr hC)]at v;go_wp2_with fail;obtain⟨⟨z,A⟩,E⟩:=gE al.J (bE _) G.J (ι κ 8) (ι κ 0);refine aB (by simp[results,results278,go_sem,z,A];rfl) rfl ?_;rw[v.J];exact F.J.same E (8,0) rfl
         . have ba:¬((b.length:Nat):Int)>5:=by omega
           rw[aE (by omega)]at v;obtain⟨WU,ab⟩:=nm ((wr.alloc (ξ #[ψ u b.length m,ψ ν 0 0,ι κ 0] 205)).drew);have n:δ wr.heap.size wr WU:=by rw[ab];exact aH ((ah _ _).alloc (ae _) _)
           have ad:WU.heap[wr.heap.size]?=σ (ξ #[ψ u b.length m,ψ ν 0 0,ι κ 0] 205 (0,0)):=by rw[ab];exact au wr _
           have aa:=SH.J.below n;obtain⟨W,bl,hM,s⟩:=aa.Be.put Tryz.MO underlying70 (Tg Gl) (by rw[KM];omega) (π (σ (Ad wr.heap.size 0)));have ac:=(n.block _ (aw G.J)).trans G.J;have Wb:w.heap.size+1≠mt:=λj=>aa.Be.nD (by rw[<- j];exact ac);have a0:wr.heap.size≠mt:=λj=>aa.Be.nD (by rw[<- j];exact ad);have Y:=(s.block (w.heap.size+1) (aw ac) (λj=>Wb (bf j))).trans ac;have Zh:=(s.block wr.heap.size (aw ad) (λj=>a0 (bf j))).trans ad;obtain⟨g0,g1⟩:=bq Y;have y0:=eR Y 0;have y1:=eR Y 1;have a8:0<b.length:=by rw[R.J];exact jd.mpr FG
           have r:=am.J;have C:=al.J;have Sk:jO (λc=>c<w.heap.size\/c=wr.heap.size\/c=mt\/c=w.heap.size+1) (ψ u b.length m):=λa5 b0 a N hm=>by
            have I:=r.lt a5.block (by rw[N];rfl);have h2:=SH.J.Be.lt;have h3:=F.J.Be.lt;have h4:=aw G.J;have h5:=qg.J.size;rcases hm with j|j|j|j
            . omega
            . omega
            . omega
            . have:=aw jl.J;omega
           have tN:Hid (∀W9,W9=(W.setCell (Ad (w.heap.size+1) 0) (ι κ 0)).setCell (Ad (w.heap.size+1) 1) (ι κ 0)->lg o w W9 p mt mg X tl (qv (cO tl gl) t cols) (τ (χ #[ι κ 0,ι κ 0]))):=ak (by
            intro W9 e9;have bm:W9.heap.size=W.heap.size:=by rw[e9];simp[World.setCell]
            have Tt:∀c,c≠w.heap.size+1->W9.heap[c]?=W.heap[c]?:=λc i=>by rw[e9];exact(ay _ _ _ _ i).trans (ay _ _ _ _ i)
            have bb:aX (λc=>c<w.heap.size/\c≠mt) w W:=aX.trans (b:=WU) ⟨n.os.trans C.os,n.tape.trans C.tape,n.output.trans C.output,ag C.size n.size,λc i=>(n.block c (ai i.1 C.size)).trans (C.block c i.1)⟩ ⟨s.os,s.tape,s.output,s.size,λc i=>s.block c (ai i.1 (ag C.size n.size)) (λj=>i.2 (bf j))⟩;have bc:aX (λc=>c<w.heap.size/\c≠mt) w W9:=by rw[e9];exact(bb.setCell (λV=>by have:=V.1;simp at this;omega) _).setCell (λV=>by have:=V.1;simp at this;omega) _
            have be:wr.heap.size≠w.heap.size+1:=by have:=aw G.J;omega
            rw[v.J];refine F.J.more ht.1 HG.J (by omega) (q:=wr.heap.size) (cv:=ψ u b.length m) (cols:=b) ?_ bc C.size ((Tt _ be).trans Zh) ?_ (Sk.mono (λc i=>i.imp id .inl)) ⟨by omega,aq.J⟩ a8 rfl
            . have aC:=hM.kept (Tt mt Wb.symm)
              rw[show(Value.pointer (σ (Ad wr.heap.size 0)))=gD.val ⟨wr.heap.size,ψ u b.length m,ψ ν 0 0,[],b,[]⟩from rfl,zr]at aC;exact aC
            . have Wq:ew wr (ψ u b.length m) b:=bu.eY r
              have bg:=Wq.below n (ae _);have bi:ew W (ψ u b.length m) b:=bu.moves (M:=λc=>c=mt) bg (Sk.mono (λc i=>.inr (.inr (.inl i)))) s.size (λc I h2=>s.block c I (λj=>h2 (bf j)));exact bu.moves (M:=λc=>c=w.heap.size+1) bi (Sk.mono (λc i=>.inr (.inr (.inr i)))) (by rw[bm];exact ae _) (λc _ h2=>Tt c h2))
           have a3:=ak Y;rw[ab]at bl;clear ab n ad aa hM s ac Wb a0 Y Zh r C Sk;go_wp2_with fail;go_region
           all_goals
            (try go_wp2_with fail)
            obtain⟨z,A⟩:=bq (aN _ _ 1 _ _ (ι κ 0) (aN _ _ 0 _ _ (ι κ 0) a3.J));refine aB (by simp[results,results278,go_sem,z,A];rfl) rfl ?_;exact tN.J _ rfl
theorem TB(f a i c:Int)(e push:Bool)(w:ω):Calls prog 25 #[χ #[ι κ f,ι κ a,ι κ i,.bool e,.bool push,ι κ c]] w λd w'=>d=τ (χ #[ι κ (min (max f 1) 16),ι κ (if 0<=a/\a<=3 then a else 0),ι κ (min (max i 1) 16),.bool e,.bool push,ι κ (min (max c 0) 4096)])/\δ w.heap.size w w':=by go_in;go_wp2_with fail;refine(S.vh a _).mono ?_;rintro d w1 ⟨rfl,rfl⟩;by_cases b:0<=a/\a<=3;{rw[bK b];go_wp2_with fail;refine aB (by simp[results,results25,go_sem];rfl) rfl ?_;exact⟨by first|rfl|simp[b],((ah _ _).alloc (ae _) _).alloc (by simp) _⟩};rw[aP b];go_wp2_with fail;refine aB (by simp[results,results25,go_sem];rfl) rfl ?_;exact⟨by first|rfl|simp[b],((ah _ _).alloc (ae _) _).alloc (by simp) _⟩
def tW(seg pk wd bud:Int)(prune push:Bool):sE:=
 ⟨(min (max seg 1) 16).toNat,(if 0<=pk/\pk<=3 then pk else 0).toNat,(min (max wd 1) 16).toNat,prune,push,(min (max bud 0) 4096).toNat,by omega,by omega,by split<;>omega,by omega,by omega,by omega⟩
theorem afZ(e a f c:Int)(j push:Bool)(w:ω):Calls prog 18 #[χ #[ι κ e,ι κ a,ι κ f,.bool j,.bool push,ι κ c]] w λi w'=>∃p mt mg,i=τ (π (σ ⟨p,0,ν⟩))/\cQ (tW e a f c j push) w' p mt mg (ye mt mg []) [] []/\w.heap.size<=mt/\w.heap.size<=mg/\w.heap.size<=p/\δ w.heap.size w w':=by
 obtain⟨r,m⟩:∃l,l=if 0<=a/\a<=3 then a else 0:=⟨_,rfl⟩
 have s:=ak (λw=>TB e a f c j push w);rw[<- m]at s;have z:=ak m;clear m;have L:=@run_makeMap prog;go_in;go_wp2_with fail;refine(s.J _).mono ?_;rintro i w1 ⟨rfl,u⟩;have F:=ak (((ah w.heap.size w).alloc (ae _) _).trans (u.mono (by simp)));clear u;go_wp2_with fail;go_ret;have d:=F.J;have y:=d.size;have m:=z.J;obtain⟨G,H,I⟩:=Fg w1 (.map #[] 0) (.map #[] 0) (ξ #[ι κ (min (max e 1) 16),ι κ r,ι κ (min (max f 1) 16),.bool j,.bool push,ι κ (min (max c 0) 4096),.map (σ w1.heap.size),.map (σ (w1.heap.size+1))] 73);have A:(((min (max e 1) 16).toNat:Nat):Int)=min (max e 1) 16:=by omega
 have C:(((if 0<=a/\a<=3 then a else 0).toNat:Nat):Int)=r:=by rw[m];split<;>omega
 have D:(((min (max f 1) 16).toNat:Nat):Int)=min (max f 1) 16:=by omega
 have E:(((min (max c 0) 4096).toNat:Nat):Int)=min (max c 0) 4096:=by omega
 refine⟨w1.heap.size+2,w1.heap.size,w1.heap.size+1,rfl,?_,y,by omega,by omega,((d.alloc y _).alloc (by simp;omega) _).alloc (by simp;omega) _⟩;exact
  { eW:=by
     show _=σ (Obj.cells #[ι κ (((min (max e 1) 16).toNat:Nat):Int),ι κ (((if 0<=a/\a<=3 then a else 0).toNat:Nat):Int),ι κ (((min (max f 1) 16).toNat:Nat):Int),.bool j,.bool push,ι κ (((min (max c 0) 4096).toNat:Nat):Int),.map (σ w1.heap.size),.map (σ (w1.heap.size+1))] 73 (0,0));rw[A,C,D,E];exact I
    Be:=(lz.made w1 9).kept (G.trans (au w1 _).symm)
    Bf:=by
     have v:=lz.made (w1.alloc (.map #[] 0)) 198;have n:(w1.alloc (.map #[] 0)).heap.size=w1.heap.size+1:=by simp
     have x:=au (w1.alloc (.map #[] 0)) (.map #[] 0);rw[n]at v x;exact v.kept (H.trans x.symm)
    ne:=by omega
    tab:=λl b=>by simp at b
    apart:=List.Pairwise.nil
    gr:=λl b=>by simp at b
    names:=λl b=>by simp at b
    sub:=λ_ d=>d
    oS:=λK d=>by
     have n:(((w1.alloc (.map #[] 0)).alloc (.map #[] 0)).alloc (ξ #[ι κ (min (max e 1) 16),ι κ r,ι κ (min (max f 1) 16),.bool j,.bool push,ι κ (min (max c 0) 4096),.map (σ w1.heap.size),.map (σ (w1.heap.size+1))] 73)).heap.size=w1.heap.size+3:=by simp
     rw[n];rcases d with i|i|⟨l,b,-⟩
     . omega
     . omega
     . simp at b
    pX:=λd=>by
     rcases d with i|i|⟨l,b,-⟩
     . omega
     . omega
     . simp at b
    few:=⟨by simp,by simp⟩ }
theorem af0(a:Nat)(w:ω):(binOp .eql 70 (.map (σ a)) (.map ν)).run prog w=.ok (.bool false) w:=by
 first
 |rfl
 |go_simp
theorem ach{o:sE}{w:ω}{p mt mg:Nat}{X:Nat->Prop}{tl:List (Lit×gD)}{gl:List (Lit×ot)}(a:cQ o w p mt mg X tl gl):Calls prog 28 #[π (σ ⟨p,0,ν⟩)] w λb w'=>b=τ (π (σ ⟨p,0,ν⟩))/\δ w.heap.size w w':=by obtain⟨d,e,f,i,j,l,m,n⟩:=eE a.eW;clear a;have c:=af0 mt;go_in;go_wp2_with fail;go_ret;exact⟨rfl,ah _ _⟩
def TD(b:Option Nat):Nat×Nat:=match b with|some b=>(7,b)|none=>(0,0)
theorem PI{w:ω}{r:uU}{cols:List br}(F:bu w 5 x r.vals.length (BU (r.vals.map su)))(E:ew w n cols)(ao:r.vals.length<=302) :
 Calls prog 279 #[χ #[ι κ r.pl,x],n] w λal w'=>al=τ (χ #[ι κ (TD (fY r cols)).1,ι κ (TD (fY r cols)).2])/\δ w.heap.size w w':=by
 obtain⟨y,m,rfl⟩:=bu.slice F;obtain⟨ca,ij,rfl⟩:=E.slice;obtain⟨c,s⟩:=nm ((w.alloc (obQ r.pl y r.vals.length m)).alloc (gY 0 0));have G:=vC s;have yZ:c.heap.size=w.heap.size+2:=by rw[s];simp
 have d:c.heap[w.heap.size]?=σ (obQ r.pl y r.vals.length m)/\c.heap[w.heap.size+1]?=σ (gY 0 0):=(by rw[s];have e2:=au (w.alloc (obQ r.pl y r.vals.length m)) (gY 0 0);rw[show(w.alloc (obQ r.pl y r.vals.length m)).heap.size=w.heap.size+1 by simp]at e2;exact⟨(dZ _ _ (by simp)).trans (au w _),e2⟩)
 have HB:=ak (λwr (W:δ c.heap.size c wr)=>(show δ w.heap.size w wr/\wr.heap[w.heap.size]?=σ (obQ r.pl y r.vals.length m)/\wr.heap[w.heap.size+1]?=σ (gY 0 0)/\bu wr 5 (ψ y r.vals.length m) r.vals.length (BU (r.vals.map su))/\ew wr (ψ ca cols.length ij) cols from by
  have V:=G.trans (W.mono (by omega));exact⟨V,(W.block _ (by omega)).trans d.1,(W.block _ (by omega)).trans d.2,bu.below F V (ae _),E.below V (ae _)⟩))
 have HW:=ak s;obtain⟨R,U⟩:=bq d.2;have z0:=eR d.2 0;have z1:=eR d.2 1;obtain⟨n0,n1⟩:=bq d.1;have HF:=ak d.2;have qg:=ak G;by_cases z:r.vals.length=cols.length;{have Jf:(((r.vals.length:Nat):Int) != ((cols.length:Nat):Int))=false:=(by simp[z]);have Wv:Hid (fY r cols=wq r.vals cols):=ak (by unfold fY;rw[aE (by simpa using z)]);have H:=ak z;clear z;clear s G yZ d F E;go_in;go_wp2_with fail;rw[<- HW.J];clear R U z0 z1 n0 n1 Jf;go_loopw[19] (λN wr=>∃a:Nat,a<=r.vals.length/\N=ι κ a/\Hid (wq r.vals cols=wq (r.vals.drop a) (cols.drop a))/\Hid (δ c.heap.size c wr)) (λN _=>r.vals.length - (intOf N).toNat);(case atStart=>exact⟨0,aK _,rfl,ak rfl,ak (ah _ _)⟩);case round=>obtain⟨a,hi,rfl,ab,sM⟩:=hrel;obtain⟨lM,-,b,K,D⟩:=HB.J wr sM.J;have M:=ak lM;have aa:=ak b;by_cases cL:a<r.vals.length;{have ju:(a:Int)<r.vals.length:=(by omega);have an:(a:Int)<cols.length:=(by have:=H.J;omega);obtain⟨x,Z⟩:∃x,r.vals[a]?=σ x:=⟨_,af cL⟩;obtain⟨k,L⟩:∃k,cols[a]?=σ k:=⟨_,af (by have:=H.J;omega)⟩;have ac:r.vals.drop a=x::r.vals.drop (a+1):=(by rw[cA cL];congr 1;exact(aj.mp Z).2);have ad:cols.drop a=k::cols.drop (a+1):=(by rw[cA (by have:=H.J;omega)];congr 1;exact(aj.mp L).2);have I:Hid (wq r.vals cols=if(!x.null&&!decide (x.kind=(k.2:Int)))=true then σ x.pl else wq (r.vals.drop (a+1)) (cols.drop (a+1))):=ak (by rw[ab.J,ac,ad];rfl);obtain⟨A,C,xW,Y,-,ap,v⟩:=bu.at K (by omega);cases Y;have i:(r.vals.map su)[a]?=σ (su x):=(by rw[aV,Z];rfl);have x0:wr.cell? ⟨A,C+a*5,ν⟩=σ (ι κ x.pl):=v (a*5) _ (dy rS 5 (λ_=>rfl) _ i (j:=0) (by decide));have x1:wr.cell? ⟨A,C+a*5+1,ν⟩=σ (ι κ (su x).kind):=v (a*5+1) _ (dy rS 5 (λ_=>rfl) _ i (j:=1) (by decide));have x2:wr.cell? ⟨A,C+a*5+2,ν⟩=σ (.bool x.null):=v (a*5+2) _ (dy rS 5 (λ_=>rfl) _ i (j:=2) (by decide));have x3:wr.cell? ⟨A,C+a*5+3,ν⟩=σ (ι κ x.n):=v (a*5+3) _ (dy rS 5 (λ_=>rfl) _ i (j:=3) (by decide));have x4:wr.cell? ⟨A,C+a*5+4,ν⟩=σ (θ x.s):=v (a*5+4) _ (dy rS 5 (λ_=>rfl) _ i (j:=4) (by decide));obtain⟨cg,co,NR,Y,y0,y1⟩:=ew.get D L;cases Y;obtain⟨R,U⟩:=bq b;have z0:=eR b 0;have z1:=eR b 1;have DW:=aw b;have am:cg<wr.heap.size:=bu.inside D (by omega) _ _ _ rfl;have Fj:Hid (∀o,δ c.heap.size c (wr.alloc o)):=ak (λo=>sM.J.alloc sM.J.size o);clear lM b K D v Z L i ac ad;by_cases f:x.null=true;{have j:(su x).kind=0:=(by unfold su;rw[f];rfl);rw[j]at x1;rw[f]at x2;have e:Hid (wq r.vals cols=wq (r.vals.drop (a+1)) (cols.drop (a+1))):=ak (by rw[I.J,f];rfl);clear j f;go_wp2_with fail;go_quiet(fail);go_wp2_with fail;exact⟨⟨a+1,by omega,by go_num,e,ak (below_drewN (Fj.J _) _)⟩,by simp[intOf];omega⟩};have l:x.null=false:=(by simpa using f);have j:(su x).kind=x.kind:=(by unfold su;rw[l];rfl);rw[j]at x1;rw[l]at x2;by_cases u:x.kind=(k.2:Int);{have Km:(x.kind != (k.2:Int))=false:=(by simp[u]);have e:Hid (wq r.vals cols=wq (r.vals.drop (a+1)) (cols.drop (a+1))):=ak (by rw[I.J,l,bK u];rfl);clear j f l u;go_wp2_with fail;go_quiet(fail);go_wp2_with fail;exact⟨⟨a+1,by omega,by go_num,e,ak (below_drewN (Fj.J _) _)⟩,by simp[intOf];omega⟩};have Km:(x.kind != (k.2:Int))=true:=(by simp[u]);have e:Hid (fY r cols=σ x.pl):=ak (by rw[Wv.J,I.J,l,aP u];rfl);clear j f l u;go_wp2_with fail;go_quiet(fail);go_wp2_with fail;obtain⟨⟨O,P⟩,Q⟩:=gE (w1:=(wr.alloc (ξ #[ι κ x.pl,ι κ x.kind,.bool false,ι κ x.n,θ x.s] 250)).drewN nq) (below_drewN (M.J.alloc M.J.size _) _) (bE _) ((dZ wr _ DW).trans aa.J) (ι κ 7) (ι κ x.pl);refine aB (by simp[results,results279,go_sem,O,P];rfl) rfl ?_;exact⟨by rw[e.J];rfl,Q⟩};obtain rfl:a=r.vals.length:=(by omega);have e:Hid (fY r cols=ν):=ak (by rw[Wv.J,ab.J,fC];cases cols.drop r.vals.length<;>rfl);obtain⟨R,U⟩:=bq b;have z0:=eR b 0;have z1:=eR b 1;clear lM b K D;go_wp2_with fail;obtain⟨⟨O,P⟩,Q⟩:=gE M.J (bE _) aa.J (ι κ 0) (ι κ 0);refine aB (by simp[results,results279,go_sem,O,P];rfl) rfl ?_;exact⟨by rw[e.J];rfl,Q⟩};have Jf:¬((r.vals.length:Nat):Int)=cols.length:=(by omega);have HR:Hid (fY r cols=σ r.pl):=ak (by unfold fY;rw[aF z]);clear s G yZ d F E;go_in;go_wp2_with fail;refine aB (by simp[results,results279,go_sem];rfl) rfl ?_;exact⟨by rw[HR.J];rfl,((ah _ _).alloc (ae _) _).alloc (by simp) _⟩
theorem acp{o:sE}{w:ω}{p mt mg:Nat}{X:Nat->Prop}{tl:List (Lit×gD)}{gl:List (Lit×ot)}(h:cQ o w p mt mg X tl gl){t:Nm}(ht:nw t){d:List uU}(b0:d≠[])(aC:∀b∈d,Aa b)(D4:d.length<=302)(hv:bu w 2 x s.length (tE s))(z:Each (λR b=>R.1=b.pl/\bu w 5 R.2 b.vals.length (BU (b.vals.map su))) s d) :
 Calls prog 280 #[χ #[θ t.1,ι κ t.2,x],π (σ (Ad p 0))] w λb w'=>lg o w w' p mt mg X tl (Bg (cO tl gl) t d) b:=by
 have Gl:t.1.size<=maxLen:=by have:=ht.1;unfold maxLen;omega
 have FJ:s.length=d.length:=z.len;obtain⟨N,K,rfl⟩:=bu.slice hv;obtain⟨l,hW⟩:=nm ((w.alloc (obS t.1 t.2 N s.length K)).alloc (gY 0 0));have ia:=vC hW;have yZ:l.heap.size=w.heap.size+2:=by rw[hW];simp
 have jF:l.heap[w.heap.size]?=σ (obS t.1 t.2 N s.length K)/\l.heap[w.heap.size+1]?=σ (gY 0 0):=by
  rw[hW];have Y:=au (w.alloc (obS t.1 t.2 N s.length K)) (gY 0 0);rw[show(w.alloc (obS t.1 t.2 N s.length K)).heap.size=w.heap.size+1 by simp]at Y;exact⟨(dZ _ _ (by simp)).trans (au w _),Y⟩
 have O:=ak (λwr (i:δ l.heap.size l wr)=>(show cQ o wr p mt mg X tl gl/\δ w.heap.size w wr/\wr.heap[w.heap.size]?=σ (obS t.1 t.2 N s.length K)/\wr.heap[w.heap.size+1]?=σ (gY 0 0)/\bu wr 2 (ψ N s.length K) s.length (tE s)/\Each (λR b=>R.1=b.pl/\bu wr 5 R.2 b.vals.length (BU (b.vals.map su))) s d from by
  have L:=ia.trans (i.mono (by omega));exact⟨h.below L,L,(i.block _ (by omega)).trans jF.1,(i.block _ (by omega)).trans jF.2,bu.below hv L (ae _),z.mono (λR _ f v=>⟨v.1,bu.below v.2 L (ae _)⟩)⟩))
 have HW:=ak hW;obtain⟨Z,-,E,c,-⟩:=O.J l (ah _ _);obtain⟨c0,c1,c2⟩:=aY E;obtain⟨f0,f1⟩:=bq c;have z0:=eR c 0;have z1:=eR c 1;obtain⟨e0,e1,Y,e3,e4,e5,e6,e7⟩:=eE Z.eW;have ce:=aw Z.eW;have EO:=aw E;have yo:=aw c;have MV:=Z.find Gl;have qh:=(Z.below (aH (ah _ _))).find Gl;have P:=ak h;have F:=ak c;have qg:=ak ia;have vW:=ak yZ;have H:=ak FJ;have cb:s.length<=302:=by rw[FJ];exact D4
 cases hg:eU tl (tk t.1)with
 |none=>
   simp only[hg]at MV qh;have zg:Hid (Bg (cO tl gl) t d=((5,t.2),cO tl gl)):=ak (by unfold Bg cO;simp only;rw[gU,hg];rfl);clear h hW ia jF Z E c hg yZ hv z FJ;go_in;go_wp2_with fail;rw[<- HW.J];go_region
   all_goals
    (try go_wp2_with fail)
    obtain⟨⟨V,W⟩,d2⟩:=gE (w1:=l) qg.J (bE _) F.J (ι κ 5) (ι κ t.2);refine aB (v:=χ #[ι κ 5,ι κ t.2]) (by simp[results,results280,go_sem,V,W];try rfl) rfl ?_;rw[zg.J];exact P.J.same (aH d2) (5,t.2) rfl
 |some a=>
   simp only[hg]at MV qh;unfold gD.val at MV qh;have XP:(tk t.1,a)∈tl:=mG hg;have D:=Z.tab _ XP;obtain⟨ca,ij,Nl⟩:=D.Ji.slice;have bt:=ak Nl;obtain⟨sa,lL,Cb,-,-⟩:=cu D.own;have bx:=ak Cb;obtain⟨I,hN⟩:=nm a.Cs.flatten.length;have HT:=ak (λwr (i:δ l.heap.size l wr)=>(show wr.heap[a.q]?=σ (ξ #[ψ ca a.cols.length ij,ψ sa a.Cs.length lL,ι κ (I:Nat)] 205 (0,0))/\ew wr (ψ ca a.cols.length ij) a.cols from by
    have L:=(O.J wr i).1.tab _ XP;rw[<- bt.J,<- bx.J,hN];exact⟨L.eW,L.Ji⟩))
   have h5:a.cols.length<=5:=D.Et.1;have cc:I<=64:=by rw[hN];exact D.few
   have aa:=ak (show fB a.cols a.Cs.flatten/\nG o.seg a.Cs/\(∀U∈a.cols,U.2<=2)/\0<a.cols.length from⟨D.fit,D.XG,λU hc=>(D.Et.2 U hc).2,D.c0⟩);have ab:=ak XP;have Q:Hid (Bg (cO tl gl) t d=match d.findSome? (λb=>fY b a.cols)with|some f=>((7,f),cO tl gl)|none=>if 64<I+d.length then((8,0),cO tl gl)else((0,0),⟨xB (fS gD.told tl) (tk t.1) (a.cols,a.Cs.flatten++d.map IB),fS ot.told gl⟩)):=ak (by
    unfold Bg cO;simp only;rw[gU,hg,hN];rfl)
   have HN:=ak hN;obtain⟨G,DY⟩:=HT.J l (ah _ _);obtain⟨q0,q1,q2⟩:=aY G;have Je:=aw G;clear h hW ia jF Z E c hg yZ hv z D Nl Cb G DY XP FJ hN;go_in;go_wp2_with fail;rw[<- HW.J];go_region
   all_goals
    (try go_wp2_with fail)
    have bi:Hid (δ l.heap.size l l.drew):=ak (aH (ah _ _));clear MV qh c0 c1 c2 f0 f1 z0 z1 e0 e1 Y e3 e4 e5 e6 e7 q0 q1 q2;go_loopw[26] (λU wr=>∃m:Nat,m<=s.length/\U=ι κ m/\Hid (d.findSome? (λb=>fY b a.cols)=(d.drop m).findSome? (λb=>fY b a.cols))/\Hid (δ l.heap.size l wr)) (λU _=>s.length - (intOf U).toNat)
    case atStart=>exact⟨0,aK _,rfl,ak rfl,bi⟩
    case round=>
     obtain⟨m,hi,rfl,a3,sM⟩:=hrel;obtain⟨am,lM,E,c,JT,a2⟩:=O.J wr sM.J;obtain⟨G,DY⟩:=HT.J wr sM.J;by_cases cL:m<s.length
     . have ju:(m:Int)<s.length:=by omega
       obtain⟨j,QM⟩:∃j,d[m]?=σ j:=⟨_,af (by rw[<- H.J];exact cL)⟩;obtain⟨R,F8,CQ,J3⟩:=Each.get a2 QM;have JD:=ak (aC j (aA QM));have ac:Hid (d.findSome? (λb=>fY b a.cols)=match fY j a.cols with|some f=>σ f|none=>(d.drop (m+1)).findSome? (λb=>fY b a.cols)):=ak (by rw[a3.J,cA (by rw[<- H.J];exact cL),(aj.mp QM).2,List.findSome?_cons];cases fY j a.cols<;>rfl);obtain⟨vg,vo,xW,he,-,cf,v⟩:=bu.at JT (by omega)
       cases he
       obtain⟨ra,rK,Dv⟩:=bu.slice J3;have x0:wr.cell? (Ad vg (vo+m*2))=σ (ι κ j.pl):=by
        have:=v (m*2) _ (dy V0 2 (λ_=>rfl) s F8 (j:=0) (by decide));rw[<- CQ];exact this
       have x1:wr.cell? (Ad vg (vo+m*2+1))=σ (ψ ra j.vals.length rK):=by
        have:=v (m*2+1) _ (dy V0 2 (λ_=>rfl) s F8 (j:=1) (by decide));rw[<- Dv];exact this
       rw[Dv]at J3;obtain⟨e,oH⟩:=nm (wr.alloc (obQ j.pl ra j.vals.length rK));have lx:=oJ oH;have mq:e.heap[wr.heap.size]?=σ (obQ j.pl ra j.vals.length rK):=by rw[oH];exact au wr _
       have aq:=sM.J.trans (lx.mono sM.J.size);obtain⟨ar,a5⟩:=HT.J e aq;obtain⟨q0,q1,q2⟩:=aY ar;obtain⟨k0,k1⟩:=bq mq;have a6:=aw ar;have bS:=aw mq;have an:=ak (λw2 (i:δ e.heap.size e w2)=>PI (r:=j) (bu.below J3 (lx.trans (i.mono lx.size)) (ae _)) (bu.below a5 i (ae _)) JD.J.2.2);obtain⟨r,u⟩:=nm (TD (fY j a.cols));rw[<- u]at an;have HF:=ak u;have b2:(e.alloc (gY 0 0)).drew.heap.size=e.heap.size+1:=by show(e.heap.push _).size=_;rw[dM]
       have Fj:=ak (λw2 (i:δ (e.alloc (gY 0 0)).drew.heap.size (e.alloc (gY 0 0)).drew w2)=>(show w2.heap[e.heap.size]?=σ (gY 0 0)/\δ e.heap.size e w2 from
        ⟨(i.block e.heap.size (by omega)).trans (au e (gY 0 0)),(aH ((ah e.heap.size e).alloc (ae _) _)).trans (i.mono (by omega))⟩))
       have IL:=ak aq;have B6:=ak oH;clear am lM E c JT a2 G DY v oH lx mq QM F8 CQ J3 Dv ar a5 u b2 aq;go_wp2_with fail;rw[<- B6.J];clear x0 x1
       go_cut[8] (λs8 wx=>∃b9,s8=π (σ (Ad b9 0))/\Hid (wx.heap[b9]?=σ (gY r.1 r.2)/\δ e.heap.size e wx))
       case first=>
        go_region_law(refine ie rfl 279 _ _ rfl call279 #[χ #[ι κ j.pl,ψ ra j.vals.length rK],ψ ca a.cols.length ij] (by first|(simp[Act.eval];done)|(simp[Act.eval,Act.put];done)|rfl) _ (an.J _ (by first|exact aH (ah _ _)|exact aH ((ah _ _).alloc (ae _) _))) ?_;rintro bd w2 ⟨rfl,c⟩;refine⟨_,rfl,?_⟩;(first|(have Vh:=(Fj.J w2 c).1;obtain⟨a0,a1⟩:=bq Vh;have ga:=λm=>eR Vh m;have bo:=ak Vh;clear Vh)|skip);have F:Hid (δ e.heap.size e w2):=ak (by first|exact(aH (ah _ _)).trans c|exact(Fj.J w2 c).2);clear c)
        all_goals(try go_wp2_with fail)
        all_goals go_meet
        all_goals
         first
         |exact⟨_,rfl,ak ⟨au _ _,F.J.alloc F.J.size _⟩⟩
         |exact⟨_,rfl,ak ⟨aN _ _ 1 _ _ _ (aN _ _ 0 _ _ _ bo.J),(F.J.setCell (ae _) _).setCell (ae _) _⟩⟩
       case rest=>
        obtain⟨b9,rfl,H9⟩:=hcut;clear k0 k1 q0 q1 q2 an Fj a6 bS;obtain⟨Nr,Yc⟩:=H9.J;obtain⟨o0,o1⟩:=bq Nr;have TA:=ak (ry r.1 r.2 wc);have bw:=aw Nr;clear Nr Yc
        (try go_wp2_with fail)
        refine TA.J.mono ?_;rintro b w3 ⟨rfl,fI⟩;obtain⟨Nr,Yc⟩:=H9.J;have yB:=(fI.block _ bw).trans Nr;obtain⟨g0,g1⟩:=bq yB;have M:=IL.J.trans ((Yc.trans (fI.mono Yc.size)).mono IL.J.size);obtain⟨-,vS,-,A,-⟩:=O.J w3 M;obtain⟨f0,f1⟩:=bq A;have z0:=eR A 0;have z1:=eR A 1;have al:=aw A;have ao:=ak A;have ad:=ak vS;have nF:=ak M;clear Nr Yc fI yB M vS A o0 o1
        cases hag:fY j a.cols with
        |none=>
          have u:=HF.J;rw[hag]at u ac;have hd:decide (r.1≠0)=false:=by rw[u];rfl
          rw[hd];clear hd u hag;go_wp2_with fail
          first
          |exact⟨⟨m+1,by omega,by go_num,ac,nF⟩,by simp[intOf];omega⟩
          | (go_roundw
             case rel=>exact⟨m+1,by omega,by go_num,ac,nF⟩
             case measure=>simp[intOf];omega)
        |some f=>
          have u:=HF.J;rw[hag]at u ac;have hd:decide (r.1≠0)=true:=by rw[u];rfl
          have zg:Hid (Bg (cO tl gl) t d=(r,cO tl gl)):=ak (by rw[Q.J,ac.J,u];rfl);rw[hd];clear hd u hag;go_wp2_with fail;obtain⟨⟨V,W⟩,d2⟩:=gE ad.J (bE _) ao.J (ι κ r.1) (ι κ r.2);refine aB (v:=χ #[ι κ r.1,ι κ r.2]) (by simp[results,results280,go_sem,V,W];try rfl) rfl ?_;rw[zg.J];exact P.J.same d2 r rfl
     . obtain rfl:m=s.length:=by omega
       have Ba:d.findSome? (λb=>fY b a.cols)=ν:=by rw[a3.J,H.J,fC];rfl
       rw[Ba]at Q;have pD:Hid (∀b∈d,fY b a.cols=ν):=ak (λb z=>by
        have:=List.findSome?_eq_none_iff.mp Ba b z;simpa using this)
       obtain⟨c0,c1,c2⟩:=aY E;obtain⟨q0,q1,q2⟩:=aY G;obtain⟨f0,f1⟩:=bq c;have z0:=eR c 0;have z1:=eR c 1;have a6:=aw G;have b3:=aw E;have b4:=aw c;have b5:=aw am.eW;obtain⟨e0,e1,Y,e3,e4,e5,e6,e7⟩:=eE am.eW;have TA:=ak c;have bm:=ak lM;rw[<- H.J]at Q;clear am lM E c JT a2 G DY Ba;by_cases a8:64<I+s.length
       . have bY:((I:Nat):Int)+(s.length:Nat)>64:=by omega
         rw[aF a8]at Q;go_wp2_with fail;go_quiet(fail);go_wp2_with fail;obtain⟨⟨V,W⟩,d2⟩:=gE (w1:=wr.drewN nq) (below_drewN bm.J _) (bE _) TA.J (ι κ 8) (ι κ 0);refine aB (v:=χ #[ι κ 8,ι κ 0]) (by simp[results,results280,go_sem,V,W];try rfl) rfl ?_;rw[Q.J];exact P.J.same d2 (8,0) rfl
       . have bY:¬((I:Nat):Int)+(s.length:Nat)>64:=by omega
         rw[aE a8]at Q;go_wp2_with fail;go_quiet(fail);obtain⟨n,Jm⟩:=nm (wr.drewN nq);have M:δ l.heap.size l n:=by rw[Jm];exact below_drewN sM.J _
         rw[<- Jm];obtain⟨Ga,vS,ax,A,a9,bb⟩:=O.J n M;obtain⟨LQ,Sy⟩:=HT.J n M;clear c0 c1 c2 q0 q1 q2 f0 f1 z0 z1 e0 e1 Y e3 e4 e5 e6 e7 Jm;obtain⟨c0,c1,c2⟩:=aY ax;obtain⟨q0,q1,q2⟩:=aY LQ;obtain⟨e0,e1,Y,e3,e4,e5,e6,e7⟩:=eE Ga.eW;have Z6:=aw LQ;have b6:=aw ax;have b7:=aw Ga.eW;have al:=aw A;have nF:=ak M;have NG:Hid (∀b∈d,b.vals.length=a.cols.length):=ak (λb z=>(Ff (aC b z) (pD.J b z)).1);have bc:Hid (fB a.cols (d.map IB)):=ak (λb z=>by
          obtain⟨j,v,rfl⟩:=cE.mp z;exact(Ff (aC j v) (pD.J j v)).2)
         have be:=ak (λwx (i:δ n.heap.size n wx)=>Ka (w:=wx) (t:=t) (n:=a.cols.length) (bu.below a9 i (ae _)) (bb.mono (λ_ _ _ v=>⟨v.1,bu.below v.2 i (ae _)⟩)) NG.J aa.J.2.2.2 h5 D4);have QA:=ak (λw2 bv vs base (i:δ n.heap.size n w2) (cd:n.heap.size<=base) (ho:gu w2 base bv vs (bh a.cols.length (d.map IB)))=>(show Calls prog 277 #[π (σ (Ad a.q 0)),bv,χ #[ι κ o.seg,ι κ o.pk,ι κ o.wd,.bool o.prune,.bool o.push,ι κ o.bud]] w2 (λb w'=>b=τ (.tuple #[])/\∃FL pZ C,oY (λf=>X f\/f=w.heap.size+1) w2 w' a.q 0 a.cols a.cv a.sv FL pZ C (I+s.length:Nat)/\nG o.seg C/\C.flatten=a.Cs.flatten++d.map IB)from by
          have mL:=vS.trans (i.mono vS.size);have np:w.heap.size+1<w2.heap.size:=ai al i.size;have av:=P.J.wide mL (bE _) np;have b1:=av.tab _ ab.J;have CF:∀f,kY a.q a.sv f->X f\/f=w.heap.size+1:=λf yj=>av.sub f (.inr (.inr ⟨_,ab.J,yj⟩));have y:=b1.adds av.oS CF;rw[<- HN.J]at y;have ap:(d.map IB).length=s.length:=by rw[aQ,H.J]
          have a4:=afa (w:=w2) (mv:=bv) (new:=d.map IB) o HN.J y aa.J.2.1 (MD ho (λf hs yj=>by
           have h0:=(ho.inside hs).1;have L:f<n.heap.size:=kY.inside ((O.J n nF.J).1.tab _ ab.J) yj;omega)) aa.J.1 bc.J (by rw[ap];omega) (by rw[ap,H.J];exact jd.mpr b0) aa.J.2.2.1 aa.J.2.2.2 h5 (aK _)
          rw[ap]at a4;exact a4))
         have bg:=ak (λw2 (i:δ n.heap.size n w2)=>(show w2.cell? (Ad w.heap.size 2)=σ (ψ N s.length K)/\(w2.cell? (Ad p 0)=σ (ι κ o.seg)/\w2.cell? (Ad p 1)=σ (ι κ o.pk)/\w2.cell? (Ad p 2)=σ (ι κ o.wd)/\w2.cell? (Ad p 3)=σ (.bool o.prune)/\w2.cell? (Ad p 4)=σ (.bool o.push)/\w2.cell? (Ad p 5)=σ (ι κ o.bud))/\w.heap.size<w2.heap.size/\p<w2.heap.size from by
          obtain⟨k1,-,k3,-⟩:=O.J w2 (nF.J.trans (i.mono nF.J.size));obtain⟨j0,j1,j2,j3,j4,j5,-,-⟩:=eE k1.eW;exact⟨(aY k3).2.2,⟨j0,j1,j2,j3,j4,j5⟩,aw k3,aw k1.eW⟩))
         have ad:=ak vS;have ao:=ak A;clear Ga vS ax A a9 bb LQ Sy M
         (try go_wp2_with fail)
         go_cut[] (λwx=>Hid (∃w2 FL pZ C,δ n.heap.size n w2/\oY (λf=>X f\/f=w.heap.size+1) w2 wx a.q 0 a.cols a.cv a.sv FL pZ C (I+s.length:Nat)/\nG o.seg C/\C.flatten=a.Cs.flatten++d.map IB))
         case first=>
          go_region_law(first
           | (refine ie rfl 281 _ _ rfl call281 #[χ #[θ t.1,ι κ t.2,ψ N s.length K],ι κ a.cols.length] (by first|(simp[Act.eval];done)|(simp[Act.eval,Act.put];done)|rfl) _ (be.J _ (aH (ah _ _))) ?_;rintro bd w2 ⟨bv,vs,rfl,hO,c⟩;refine⟨_,rfl,?_⟩;obtain⟨ba,iQ,rfl,-,-⟩:=cu hO.row;have F:Hid (δ n.heap.size n w2):=ak ((aH (ah _ _)).trans c);obtain⟨l0,⟨l1,l2,l3,l4,l5,l6⟩,l7,l8⟩:=bg.J w2 F.J;have HO:=ak hO;clear hO c)
           | (refine ie rfl 277 _ _ rfl call277 #[π (σ (Ad a.q 0)),.slice ba _ iQ,χ #[ι κ o.seg,ι κ o.pk,ι κ o.wd,.bool o.prune,.bool o.push,ι κ o.bud]] (by first|(simp[Act.eval];done)|(simp[Act.eval,Act.put];done)|rfl) _ (QA.J _ _ _ _ F.J (by simp) HO.J) ?_;rintro bd w4 ⟨rfl,y⟩;refine⟨_,rfl,?_⟩;have HA:=ak y;clear y))
          all_goals(try go_wp2_with fail)
          all_goals go_meet
          all_goals
           obtain⟨FL,pZ,C,y,hB,hC⟩:=HA.J;exact ak ⟨w2,FL,pZ,C,F.J,y,hB,hC⟩
         case rest=>
          obtain⟨w2,FL,pZ,C,c,y,uH,DW⟩:=hcut.J;have mL:=ad.J.trans (c.mono ad.J.size);have np:w.heap.size+1<w2.heap.size:=ai al c.size;have On:wc.heap[w.heap.size+1]?=σ (gY 0 0):=by
           refine(y.keep.block _ ⟨np,λhm=>?_⟩).trans ((c.block _ al).trans ao.J);have:=P.J.oS _ (P.J.sub _ (.inr (.inr ⟨_,ab.J,hm⟩)));omega
          have tN:Hid (∀W9,W9=(wc.setCell (Ad (w.heap.size+1) 0) (ι κ 0)).setCell (Ad (w.heap.size+1) 1) (ι κ 0)->lg o w W9 p mt mg X tl (Bg (cO tl gl) t d) (τ (χ #[ι κ 0,ι κ 0]))):=ak (λW9 h9=>by
           rw[Q.J];refine ab3 P.J mL (bE _) np ab.J y ?_ uH DW bc.J ?_ h9 rfl
           . rw[DW,az,aQ,<- HN.J,H.J]
           . rw[DW,az,aQ,<- HN.J,<- H.J];omega)
          obtain⟨f0,f1⟩:=bq On;have z0:=eR On 0;have z1:=eR On 1;have b8:=aw On;have bl:=ak On;clear c y uH DW mL np On hcut;go_wp2_with fail;obtain⟨V,W⟩:=bq (aN _ _ 1 _ _ (ι κ 0) (aN _ _ 0 _ _ (ι κ 0) bl.J));refine aB (v:=χ #[ι κ 0,ι κ 0]) (by simp[results,results280,go_sem,V,W];try rfl) rfl ?_;exact tN.J _ rfl
end
theorem Lm{b c:Type}:∀a:List (b×c),(a.map (·.1)).zip (a.map (·.2))=a
 |[]=>rfl
 |x::a=>by rw[gp,gp,nj,Lm a]
theorem M1.act{w:ω}{a:gx}(d:M1 w v x a):C8 w x (qu a).2:=by
 cases d with
 |acB b l q=>exact .gB b l
 |apf x c q e=>
   have b:(qu { bare r9 q with names:=c.map (·.1),exprs:=c.map (·.2) }).2=.mapA ((c.map (·.1)).zip (c.map (·.2))):=rfl;rw[b,Lm];exact .mapA x c (bu.eY e)
 |acC j q=>exact .lA j
 |acD a d=>
   obtain⟨e,f,i⟩:=d;have b:(qu a).2=.fJ a.pl:=by simp[qu,e,f,i]
   rw[b];exact .fJ a.pl
theorem Each.pair{b c:Type}{d:b->c->Prop}:∀{j:List b} {l:List c},Each d j l->∀{i:Nat} {e:b} {f:c},j[i]?=σ e->l[i]?=σ f->d e f
 |[],[],_,_,_,_,a,_=>by simp at a
 |_::_,_::_,a,0,_,_,h1,h2=>by
   simp at h1 h2;subst h1 h2;exact a.1
 |_::_,_::_,a,_+1,_,_,h1,h2=>Each.pair a.2 (by simpa using h1) (by simpa using h2)
 |[],_::_,a,_,_,_,_,_=>absurd a (λa=>a)
 |_::_,[],a,_,_,_,_,_=>absurd a (λa=>a)
theorem Ln{i:Nat×υ->gx->Prop}:∀{d:List (Nat×υ)} {e:List gx},Each (λb c=>b.1=c.pl/\i b c) d e->(((e.map qu).zip (d.map (·.2))).flatMap λf=>[ι κ f.1.1,f.2])=tE d
 |[],[],_=>rfl
 |b::u,c::v,a=>by
   have l:=Ln a.2;have j:(qu c).1=b.1:=a.1.1.symm;rw[gp,gp,nj,gQ,l,j];rfl
 |[],_::_,a=>absurd a (λa=>a)
 |_::_,[],a=>absurd a (λa=>a)
theorem af8{w:ω}{i:List gx}(j:w.ownsRow v 193 2 x s.length (tE s))(a:Each (λc b=>c.1=b.pl/\M1 w v c.2 b) s i):uK w x (i.map qu):=by have f:=a.len;refine⟨s.map (·.2),by rw[aQ,aQ,f],?_,λr b n d e=>?_⟩;{rw[Ln a,aQ,<- f];exact bu.eY j};rw[aV]at d e;obtain⟨u,l,rfl⟩:=dF.mp d;obtain⟨y,m,rfl⟩:=dF.mp e;exact(a.pair m l).2.act
theorem af9{c:gx}(a:xw c):pE (qu c).2:=by unfold qu;simp only;split;{split;{rename_i d e u m;have:=a.2.1 (d,e) (by rw[m];simp);exact⟨this.1,this.2.1.1⟩};trivial};split;{rename_i n;obtain⟨f,s,i⟩:=a.2.2 n;refine⟨i,by rw[List.length_zip];omega,λb r=>?_⟩;obtain⟨j,l⟩:=List.of_mem_zip (a:=b.1) (b:=b.2) r;have:=a.2.1 _ l;exact⟨this.1,this.2.1.1,(f _ j).1⟩};split<;>trivial
theorem akM{c:gx}(a:xw c):zA (qu c).2:=by unfold qu;simp only;split;{split;{rename_i d e u l;have:=a.2.1 (d,e) (by rw[l];simp);exact⟨this.2.1.2,this.2.2⟩};exact a.1};split;{rename_i m;obtain⟨f,r,s⟩:=a.2.2 m;intro b n;obtain⟨i,j⟩:=List.of_mem_zip (a:=b.1) (b:=b.2) n;exact⟨(f _ i).2,(a.2.1 _ j).2.1.2⟩};split;{trivial};exact a.1
theorem P0{c:List gx}(d:∀a∈c,xw a):∀b∈c.map qu,pE b.2:=λb e=>by
 obtain⟨a,f,rfl⟩:=cE.mp e;exact af9 (d a f)
theorem Vr{e:List gx}(c:∀a∈e,xw a):∀b∈e.map qu,b.1<=300/\zA b.2:=λb f=>by
 obtain⟨a,d,rfl⟩:=cE.mp f;exact⟨(c a d).1,akM (c a d)⟩
section
open Go.Maps
theorem ahP{X:ω}{x y:υ}{t:TypeId}(a:X.heap[v]?=σ (ξ #[n,c] t (0,0)))(d:δ i.heap.size i X)(b:i.heap.size<=v):(((X.setCell (Ad v 0) x).setCell (Ad v 1) y).cell? (Ad v 0)=σ x/\((X.setCell (Ad v 0) x).setCell (Ad v 1) y).cell? (Ad v 1)=σ y)/\δ i.heap.size i ((X.setCell (Ad v 0) x).setCell (Ad v 1) y):=MJ a d b
abbrev QT:=(Nat×Nat) ⊕ (List br×List (List aD))
def TR:QT->Nat×Nat
 |.inl f=>f
 |.inr _=>(0,0)
def ShQ(M:Nat->Prop)(Q:QT)(X:ω)(kv bv:υ):Prop:=∀x,Q=.inr x->(nN M X kv x.1/\iU M X bv (bh x.1.length x.2))/\oq x.1/\0<x.1.length/\fB x.1 x.2/\x.2.length<=64
theorem ShQ.below{a:QT}{X:ω}(c:ShQ u a X x n)(b:δ X.heap.size X i):ShQ u a i x n:=λl j=>by
 obtain⟨⟨d,e⟩,f⟩:=c l j;exact⟨⟨d.below b,e.below b⟩,f⟩
theorem abP.apart{w w':ω}{a:QT}{m:Ending}(i:abP w w' a m):∃d l f c j e,m=τ (.tuple #[χ #[ψ d l f,ψ c j e],χ #[ι κ (TR a).1,ι κ (TR a).2]])/\ShQ (λb=>b<w.heap.size\/w'.heap.size<=b) a w' (ψ d l f) (ψ c j e)/\δ w.heap.size w w':=by
 obtain⟨n,u,v⟩:=i
 cases hQ:a with
 |inl s=>exact⟨_,_,_,_,_,_,u s hQ,λr A=>(by cases A),n⟩
 |inr r=>
   obtain⟨d,l,f,c,j,e,z,x,y⟩:=v r hQ;obtain⟨D,E⟩:=x (λb=>b<w.heap.size) (λ_ i=>i);exact⟨_,_,_,_,_,_,z,λF C=>by cases C;exact⟨⟨D.grow (ah _ _),E.moves (ae _) (λ_ _ _=>rfl)⟩,y⟩,n⟩
def apk(Q:QT)(g:Nat×Nat):FN:=⟨λv lo hi X=>∃a2 m2 c2 a1 m1 c1,v=.tuple #[χ #[ψ a2 m2 c2,ψ a1 m1 c1],χ #[ι κ g.1,ι κ g.2]]/\ShQ (λb=>b<lo\/hi<=b) Q X (ψ a2 m2 c2) (ψ a1 m1 c1),λ_ _ _ _ _ ⟨a2,m2,c2,a1,m1,c1,h1,h2⟩ hb=>⟨a2,m2,c2,a1,m1,c1,h1,h2.below hb⟩⟩
def avS(Q:QT):FN:=⟨λv lo hi X=>∃a2 m2 c2 a1 m1 c1,v=χ #[ψ a2 m2 c2,ψ a1 m1 c1]/\ShQ (λb=>b<lo\/hi<=b) Q X (ψ a2 m2 c2) (ψ a1 m1 c1),λ_ _ _ _ _ ⟨a2,m2,c2,a1,m1,c1,h1,h2⟩ hb=>⟨a2,m2,c2,a1,m1,c1,h1,h2.below hb⟩⟩
theorem Lp{X:ω}{F:QT}{m:Nat}{L:TypeId}(Q:X.heap[v]?=σ (ξ #[c,y] e (0,0)))(R:X.heap[f]?=σ (ξ #[z,d] L (0,0)))(H:v≠f)(V:v<P\/m<=v)(W:f<P\/m<=f)(Y:ShQ (λa=>a<P\/m<=a) F X x n)(hw:δ i.heap.size i X)(I:i.heap.size<=v)(K:i.heap.size<=f)(j l:υ){Z:ω}(U:Z=(((X.setCell (Ad v 0) x).setCell (Ad v 1) n).setCell (Ad f 0) j).setCell (Ad f 1) l) :
 Z.heap[v]?=σ (ξ #[x,n] e (0,0))/\Z.heap[f]?=σ (ξ #[j,l] L (0,0))/\ShQ (λ_=>False) F Z x n/\δ i.heap.size i Z:=by
 subst U;have G:∀a,a≠f->((((X.setCell (Ad v 0) x).setCell (Ad v 1) n).setCell (Ad f 0) j).setCell (Ad f 1) l).heap[a]?=((X.setCell (Ad v 0) x).setCell (Ad v 1) n).heap[a]?:=λa b=>(ay _ _ _ _ b).trans (ay _ _ _ _ b);have g:∀a,a≠v->((X.setCell (Ad v 0) x).setCell (Ad v 1) n).heap[a]?=X.heap[a]?:=λa b=>(ay _ _ _ _ b).trans (ay _ _ _ _ b);have r:X.heap.size<=((((X.setCell (Ad v 0) x).setCell (Ad v 1) n).setCell (Ad f 0) j).setCell (Ad f 1) l).heap.size:=by simp[World.setCell]
 have k:∀a,¬(a<P\/m<=a)->((((X.setCell (Ad v 0) x).setCell (Ad v 1) n).setCell (Ad f 0) j).setCell (Ad f 1) l).heap[a]?=X.heap[a]?:=λa b=>(G a (λC=>b (C ▸ W))).trans (g a (λC=>b (C ▸ V)));refine⟨(G _ H).trans (sP Q),sP ((g _ H.symm).trans R),λaa hx=>?_,(((hw.setCell I _).setCell I _).setCell K _).setCell K _⟩;obtain⟨⟨M,N⟩,O⟩:=Y aa hx;exact⟨⟨λs D E=>M s (ag r D) (λa A u=>(E a (ai A r) id).trans (k a u)),λs D E=>N s (ag r D) (λa A u=>(E a (ai A r) id).trans (k a u))⟩,O⟩
theorem P7{w1:ω}{g:υ}{t:TypeId}(a:w1.heap[v]?=σ (ξ #[x,n,c,y,z,d,g,W] t (0,0))):w1.cell? (Ad v 0)=σ x/\w1.cell? (Ad v 1)=σ n/\w1.cell? (Ad v 2)=σ c/\w1.cell? (Ad v 3)=σ y/\w1.cell? (Ad v 4)=σ z/\w1.cell? (Ad v 5)=σ d:=by simp[World.cell?,a]
theorem TS{o:sE}{w:ω}{p mt mg:Nat}{X:Nat->Prop}{tl:List (Lit×gD)}{gl:List (Lit×ot)}(a:cQ o w p mt mg X tl gl){M:ByteArray}(hu:M.size<=maxLen){pl:Nat}{t:Nm}(ht:nw t){cl:υ}{c:List mo}(i:uK w cl c)(YW:∀I∈c,pE I.2)(c6:c.length<=300)(hk:qs w)(hp:uL w) :
 Calls prog 47 #[χ #[ι κ pl,θ t.1,ι κ t.2,cl],π (σ (Ad p 0)),θ M] w λc7 w'=>c7=τ (.tuple #[θ ⟨(mZ o.bud (cO tl gl) M pl t c).1.toArray⟩,χ #[ι κ (mZ o.bud (cO tl gl) M pl t c).2.1,ι κ (mZ o.bud (cO tl gl) M pl t c).2.2]])/\δ w.heap.size w w':=by
 obtain⟨Y,U,rfl⟩:=i.slice;obtain⟨W0,zV⟩:=nm ((w.alloc (Zm pl t.1 t.2 Y c.length U)).alloc (gY 0 0));have mL:=vC zV;have lC:W0.heap.size=w.heap.size+2:=by rw[zV];simp
 have y:W0.heap[w.heap.size]?=σ (Zm pl t.1 t.2 Y c.length U)/\W0.heap[w.heap.size+1]?=σ (gY 0 0):=(by rw[zV];have v:=au (w.alloc (Zm pl t.1 t.2 Y c.length U)) (gY 0 0);rw[show(w.alloc (Zm pl t.1 t.2 Y c.length U)).heap.size=w.heap.size+1 by simp]at v;exact⟨(dZ _ _ (by simp)).trans (au w _),v⟩)
 have HS:=ak (λwr (b:δ W0.heap.size W0 wr)=>(show cQ o wr p mt mg X tl gl/\uK wr (ψ Y c.length U) c/\qs wr/\uL wr/\δ w.heap.size w wr/\wr.heap[w.heap.size]?=σ (Zm pl t.1 t.2 Y c.length U)/\wr.heap[w.heap.size+1]?=σ (gY 0 0)from by
  have E:=mL.trans (b.mono (by omega));exact⟨a.below E,i.below E (ae _),hk.below E (ae _),hp.below E (ae _),E,(b.block _ (by omega)).trans y.1,(b.block _ (by omega)).trans y.2⟩))
 have cv:=ak (Tn (a.below mL) hu (table:=t.1) (by have:=ht.1;unfold maxLen;omega));have Qw:=ak zV;have vz:=aw a.eW;clear a i hk hp mL y zV;go_in;go_wp2_with fail;rw[<- Qw.J];refine cv.J.mono ?_;rintro aq w1 ⟨⟨tv,dg,wv,db,rfl,⟨⟨ta,rfl⟩,⟨sa,sn,Z,rfl⟩,bg⟩,kR⟩,E⟩;obtain⟨FA,Wq,mq,GM,Lq,bd,Lr⟩:=HS.J w1 E;have c9:∀(a0:Addr) (ci:Go.Mode) (w:ω),(store a0 wv ci).run prog w=stored prog w a0 wv ci:=(by rcases bg with rfl|⟨k,ba,rfl⟩;{exact nC};exact iP k ba);obtain⟨q0,q1,q2,q3⟩:=eo bd;obtain⟨f0,f1⟩:=bq Lr;have K:=eR Lr 0;have L:=eR Lr 1;have gq:=ak E;have b1:=ak Lq;have bY:=ak Lr;have Je:=aw bd;have DW:=aw Lr;clear FA Wq mq GM Lq bd Lr E;rcases kR with⟨rfl,Ba⟩|⟨rfl,u,s,ax,a0,x,hl,x9,XB,FR,np,hF,h0,h5,D8,b2⟩
 .have HA:Hid (mZ o.bud (cO tl gl) M pl t c=([],5,t.2)):=ak (by unfold mZ;rw[Ba]);clear Ba;rcases bg with rfl|⟨k,ba,rfl⟩
  {go_wp2_with fail;go_region;all_goals (try go_wp2_with fail);obtain⟨⟨F,G⟩,v⟩:=MU b1.J (bE _) bY.J (ι κ 5) (ι κ t.2) (Nd (.pointer ta) sa sn Z .nilFunc);refine aB (by simp[results,results47,go_sem,F,G];rfl) rfl ?_;exact⟨by rw[HA.J];rfl,v⟩};go_wp2_with fail;go_region;all_goals (try go_wp2_with fail);obtain⟨⟨F,G⟩,v⟩:=MU b1.J (bE _) bY.J (ι κ 5) (ι κ t.2) (Nd (.pointer ta) sa sn Z (.func (.func k) #[] ba));refine aB (by simp[results,results47,go_sem,F,G];rfl) rfl ?_;exact⟨by rw[HA.J];rfl,v⟩
 unfold gD.val at x9;cases x9;have cN:=FR;obtain⟨fk,fc,XM,-⟩:=cN;subst XM;clear bg;obtain⟨QN,Hq,Dy⟩:=bu.slice XB;cases Dy;obtain⟨j,oH⟩:=nm (w1.alloc (Nd (π (σ (Ad u.q 0))) sa s.length Z (.func (.func fk) #[] fc)));have ia:δ w1.heap.size w1 j:=by rw[oH];exact ld _ _
 have cg:j.heap[w1.heap.size]?=σ (Nd (π (σ (Ad u.q 0))) sa s.length Z (.func (.func fk) #[] fc)):=by rw[oH];exact au w1 _
 have b5:=gq.J.trans (ia.mono gq.J.size);obtain⟨FA,a9,mq,GM,Lq,ce,b7⟩:=HS.J j b5;have z:=FA.tab _ (mG hl);have bc:tU o j u.q (ψ sa s.length Z) (.func (.func fk) #[] fc) u.cols s ax u.Cs:=⟨⟨_,_,_,_,z.eW,z.Ji,bu.eY z.own,z.sq⟩,⟨a0,x,FR,np.below ia⟩,bu.below XB ia (ae _),z.XG,z.few,z.c0,z.Et.1,D8,h0,h5,hF,λrow hr=>SY (z.fit row hr)⟩;have LL:=IC z.Et h5 D8;have cf:=IE z.fit D8 ax;have hA:mZ o.bud (cO tl gl) M pl t c=if(gC (s.map λI=>u.cols.getD I default) c).1≠0 then([],(gC (s.map λI=>u.cols.getD I default) c).1,(gC (s.map λI=>u.cols.getD I default) c).2)else match kh o.bud pl (s.map λI=>u.cols.getD I default) (jV ax s u.Cs.flatten) c with|.inl g=>([],g.1,g.2)|.inr am=>(xX am.1 am.2,0,0):=by unfold mZ;rw[b2];rfl
 have DI:=ak (λX (a:δ j.heap.size j X)=>(bc.below a).Va);have ao:=ak (λX (a:δ j.heap.size j X) K6 wL=>abQ (o:=o) (pl:=pl) (tp:=t.2) (t:=t.1) (bc.below a) (a9.below a (ae _)) YW c6 K6 wL cf);obtain⟨aa,hC⟩:=nm (s.map λI=>u.cols.getD I default);have c0:aa.length=s.length:=by rw[hC,aQ]
 have hN:zn aa:=by unfold zn;omega
 rw[<- hC]at hA LL DI ao;have cS:Hid (oq aa):=ak ⟨ag LL.1 (by decide),LL.2⟩;have bx:=ak (λX (a:δ j.heap.size j X) ca cm cc (hc:ew X (ψ ca cm cc) aa)=>Xx (pl:=pl) (tp:=t.2) (t:=t.1) (a9.below a (ae _)) YW (by omega) hc hN);obtain⟨S,hS⟩:=nm (jV ax s u.Cs.flatten);rw[<- hS]at hA ao;obtain⟨e,K6⟩:=nm (gC aa c);rw[<- K6]at hA bx ao;obtain⟨Q0,bb⟩:=nm (kh o.bud pl aa S c);rw[<- bb]at hA ao;have HZ:Hid (e.1=0->e=(0,0)):=ak (λa=>by rw[K6]at a ⊢;exact I4 a);have cs:Hid (∀ad,Q0=.inl ad->ad.1≠0):=ak (λad a=>Fo (bb.symm.trans a));have HA:=ak hA;have aC:=ak (λX (a:δ j.heap.size j X)=>(show(X.cell? (Ad w.heap.size 0)=σ (ι κ pl)/\X.cell? (Ad w.heap.size 1)=σ (θ t.1)/\X.cell? (Ad w.heap.size 2)=σ (ι κ t.2)/\X.cell? (Ad w.heap.size 3)=σ (ψ Y c.length U))/\(X.cell? (Ad w1.heap.size 0)=σ (π (σ (Ad u.q 0)))/\X.cell? (Ad w1.heap.size 1)=σ (ψ sa s.length Z)/\X.cell? (Ad w1.heap.size 2)=σ (.func (.func fk) #[] fc))/\X.heap[w.heap.size+1]?=σ (gY 0 0)/\X.heap[p]?=j.heap[p]?/\qs X/\uL X/\δ w.heap.size w X from
  ⟨eo (vA a _ _ ce),aY (vA a _ _ cg),vA a _ _ b7,a.block p (aw FA.eW),mq.below a (ae _),GM.below a (ae _),Lq.trans (a.mono Lq.size)⟩))
 have cr:=ak FA.eW;have B6:=ak oH;have DR:prog.follows .mixedOrders=true:=by kernel_rfl
 clear hl XB FR np hF D8 b2 oH ia cg b5 FA a9 mq GM Lq ce b7 z bc LL cf hA hC c0 hN hS K6 bb HS gq;go_wp2_with fail;rw[<- B6.J];clear q0 q1 q2 q3 f0 f1 K L;refine q6 (n:=5) (m:=1) (z:=51) [.is (χ #[ι κ pl,θ t.1,ι κ t.2,ψ Y c.length U]),.is (χ #[π (σ (Ad u.q 0)),ψ sa s.length Z,.func (.func fk) #[] fc]),Vb aa,.is (χ #[ι κ e.1,ι κ e.2]),.box #[ι κ 0,ι κ 0] 76] DR rfl (by kernel_rfl) ⟨⟨⟨⟨⟨trivial,?_⟩,?_⟩,?s2⟩,?s3⟩,?s4⟩ ?fin;(case s2=>refineλd x H X b ⟨hf,(l:d (.tmp 29)=_),_⟩=>eT rfl hf call69 (by simp[l]) (DI.J X ((aH (ah _ _)).trans b)) ?_;rintro _ X1 ⟨m,r,n,rfl,KB,cG⟩;exact⟨_,rfl,⟨_,_,_,rfl,KB⟩,cG⟩);(case s3=>refineλd x H X b ⟨hf,(l:d (.tmp 28)=_),⟨m,r,n,(a3:d (.tmp 30)=_),KB⟩,_⟩=>eT rfl hf call68 (by simp[l,a3]) (bx.J X ((aH (ah _ _)).trans b) m r n KB) ?_;rintro _ X1 ⟨rfl,E⟩;exact⟨_,rfl,rfl,E⟩);case s4=>exactλd x H X b _=>fj (v:=π (σ (Ad X.heap.size 0))) (w':=X.alloc _) (by go_simp) ⟨⟨by simp,rfl,au X _⟩,ld X _⟩
 case fin=>
  intro val Zd b9 X b i _;have v3:val 3=_:=(i 3 (by decide)).1;obtain⟨⟨h4,v4,ap⟩,cb,-,-⟩:=i 4 (by decide);clear i;generalize Zd 4=b4 at *;obtain⟨x0,x1⟩:=aR ap;have K:=eR ap 0;have L:=eR ap 1;simp[mY,gO,Act.put,v3,v4];refine nu (i:=5) (by kernel_rfl) rfl (by rfl) ?_;unfold iR;go_simp;refine qo (by kernel_rfl) ?_ _;obtain⟨X1,Zf⟩:=nm ((X.setCell (Ad b4 0) (ι κ e.1)).setCell (Ad b4 1) (ι κ e.2));rw[<- Zf];have mK:j.heap.size<=b4:=cb;have b6:δ j.heap.size j X1:=by rw[Zf];exact(b.setCell mK _).setCell mK _
  have wF:X1.heap[b4]?=σ (gY e.1 e.2):=by rw[Zf];exact sP ap
  obtain⟨k0,k1⟩:=aR wF;have Ir:=ak b6;have Qy:=ak wF;clear x0 x1 K L v3 v4 h4 ap cb b Zf b6 wF;generalize val 0=u0;generalize val 1=u1;generalize val 2=u2;go_wp2_with fail;refine(JC _ _ _).mono ?_;rintro _ w5 ⟨rfl,x8⟩;have AG:=Ir.J.trans (x8.mono Ir.J.size);have Fa:=vA x8 _ _ Qy.J;clear k0 k1;by_cases W:e.1=0
  .have dd:(((e.1:Nat):Int) != 0)=false:=(by rw[W];rfl);have D:=ak AG;have cp:=ak (HZ.J W);obtain⟨g,hg⟩:=nm (TR Q0);have HG:=ak hg;clear hg;clear Fa AG x8;go_wp2_with fail;go_cut[11,12]from 35 to 44 (λs11 c8 wx=>∃N P m r n l C A,s11=π (σ (Ad N 0))/\c8=π (σ (Ad P 0))/\Hid (wx.heap[N]?=σ (wG m r n l C A)/\wx.heap[P]?=σ (gY g.1 g.2)/\ShQ (λ_=>False) Q0 wx (ψ m r n) (ψ l C A)/\δ j.heap.size j wx))
   (case first=>have cL:=ak (λX (a:δ w5.heap.size w5 X)=>ao.J X (D.J.trans (a.mono D.J.size)) cp.J cS.J);have bS:=ak (λX (a:δ w5.heap.size w5 X)=>aC.J X (D.J.trans (a.mono D.J.size)));refine OP (n:=12) (m:=2) (z:=51) (l:=9) (q:=12) (λbi=>if bi=7 then 6 else if bi=8 then 7 else bi) [.is (χ #[ι κ pl,θ t.1,ι κ t.2,ψ Y c.length U]),.is (χ #[π (σ (Ad u.q 0)),ψ sa s.length Z,.func (.func fk) #[] fc]),.is (π (σ (Ad p 0))),.is (π (σ (Ad p 0))),.is (π (σ (Ad p 0))),.is (.agg (OB o).toArray),apk Q0 g,apk Q0 g,avS Q0,.is (χ #[ι κ g.1,ι κ g.2]),.box #[ψ ν 0 0,ψ ν 0 0] 154,.box #[ι κ 0,ι κ 0] 76] DR (by decide) rfl (by kernel_rfl) (by kernel_rfl) ⟨⟨⟨⟨⟨⟨⟨⟨⟨⟨⟨⟨trivial,?_⟩,?_⟩,?_⟩,?_⟩,?_⟩,?s5⟩,?s6⟩,?s7⟩,?s8⟩,?s9⟩,?s10⟩,?s11⟩ ?late ?fin;(case s6=>refineλd x H X b ⟨hf,(F:d (.tmp 36)=_),(G:d (.tmp 37)=_),(v:d (.tmp 41)=_),_⟩=>eT rfl hf call70 (by simp[F,G,v]) (cL.J X ((aH (ah _ _)).trans b)) ?_;intro aq X1 hq;obtain⟨m,r,n,l,C,A,rfl,h1,h2⟩:=hq.apart;rw[<- HG.J];exact⟨_,rfl,⟨m,r,n,l,C,A,rfl,h1⟩,h2⟩);(case s7=>refineλd x H X b ⟨⟨m,r,n,l,C,A,(aq:d (.tmp 42)=_),h1⟩,_⟩=>fj (w':=X) ?_ ⟨⟨m,r,n,l,C,A,rfl,h1⟩,ah _ _⟩;go_simp);(case s8=>refineλd x H X b ⟨⟨m,r,n,l,C,A,(aq:d (.tmp 35)=_),h1⟩,_⟩=>fj (w':=X) ?_ ⟨⟨m,r,n,l,C,A,rfl,h1⟩,ah _ _⟩;go_simp);(case s9=>refineλd x H X b ⟨⟨m,r,n,l,C,A,(aq:d (.tmp 35)=_),h1⟩,_⟩=>fj (w':=X) ?_ ⟨rfl,ah _ _⟩;go_simp);(case s10=>exactλd x H X b _=>fj (v:=π (σ (Ad X.heap.size 0))) (w':=X.alloc _) (by go_simp) ⟨⟨by simp[vU],rfl,au X _⟩,ld X _⟩);(case s11=>exactλd x H X b _=>fj (v:=π (σ (Ad X.heap.size 0))) (w':=X.alloc _) (by go_simp) ⟨⟨by simp[vU],rfl,au X _⟩,ld X _⟩);(case s5=>refineλd x H X b ⟨(aq:d (.tmp 40)=_),_⟩=>fj (w':=X) ?_ ⟨rfl,ah _ _⟩;obtain⟨-,-,-,c5,-⟩:=bS.J X ((aH (ah _ _)).trans b);obtain⟨p0,p1,p2,p3,p4,p5⟩:=P7 (c5.trans cr.J);go_simp;rfl);(case late=>intro val Zd b9 X b i O zX;obtain⟨a4,m4,c4,a3,m3,c3,v7,-⟩:=(i 7 (by decide) (by decide)).1;obtain⟨m,r,n,l,C,A,v8,s8⟩:=(i 8 (by decide) (by decide)).1;obtain⟨⟨DB,bv,Q⟩,bl,-,-⟩:=i 10 (by decide) (by decide);obtain⟨⟨ZY,bw,R⟩,bm,-,-⟩:=i 11 (by decide) (by decide);have QG:=zX 8 (by decide) (by decide) (by decide);have SL:=zX 7 (by decide) (by decide) (by decide);have fE:=O 10 11 (by decide) (by decide) (by decide) (by decide) (by decide) rfl rfl;have ha:=O 6 10 (by decide) (by decide) (by decide) (by decide) (by decide) rfl rfl;have yj:=O 6 11 (by decide) (by decide) (by decide) (by decide) (by decide) rfl rfl;clear i O zX;generalize Zd 10=N at *;generalize Zd 11=P at *;have HE:=ak (λ(f:ω) V=>Lp (Z:=f) Q R (by omega) (by simp at QG SL;omega) (by simp at QG SL;omega) s8 (D.J.trans (b.mono D.J.size)) (ag D.J.size bl) (ag D.J.size bm) (ι κ g.1) (ι κ g.2) V);obtain⟨x0,x1⟩:=aR Q;obtain⟨y0,y1⟩:=aR R;have K:=eR Q 0;have L:=eR Q 1;have z2:=eR R 0;have z3:=eR R 1;have n1:N≠P:=(by omega);have n2:P≠N:=(by omega);clear QG SL ha yj s8 fE;simp[mY,gO,Act.put,v7,v8,bv,bw];refine ajI (i:=12) rfl (by rfl) ?_;unfold iR;go_simp;refine nu (i:=9) (by kernel_rfl) rfl (by rfl) ?_;unfold iR;go_simp;refine nu (i:=13) (by kernel_rfl) rfl (by rfl) ?_;unfold iR;go_simp;refine qo (by kernel_rfl) ?_ _;go_wp2_with fail;go_meet;exact⟨_,_,_,_,_,_,_,_,rfl,rfl,ak (HE.J _ rfl)⟩);(case fin=>intro val Zd b9 X b i O zX;obtain⟨m,r,n,l,C,A,v8,s8⟩:=(i 8 (by decide)).1;have v9:val 9=_:=(i 9 (by decide)).1;obtain⟨⟨DB,bv,Q⟩,bl,-,-⟩:=i 10 (by decide);obtain⟨⟨ZY,bw,R⟩,bm,-,-⟩:=i 11 (by decide);have QG:=zX 8 (by decide) (by decide);have SL:=zX 7 (by decide) (by decide);have fE:=O 10 11 (by decide) (by decide) (by decide) rfl rfl;have ha:=O 6 10 (by decide) (by decide) (by decide) rfl rfl;have yj:=O 6 11 (by decide) (by decide) (by decide) rfl rfl;clear i O zX;generalize Zd 10=N at *;generalize Zd 11=P at *;have HE:=ak (λ(f:ω) V=>Lp (Z:=f) Q R (by omega) (by simp at QG SL;omega) (by simp at QG SL;omega) s8 (D.J.trans (b.mono D.J.size)) (ag D.J.size bl) (ag D.J.size bm) (ι κ g.1) (ι κ g.2) V);obtain⟨x0,x1⟩:=aR Q;obtain⟨y0,y1⟩:=aR R;have K:=eR Q 0;have L:=eR Q 1;have z2:=eR R 0;have z3:=eR R 1;have n1:N≠P:=(by omega);have n2:P≠N:=(by omega);clear QG SL ha yj s8 fE;simp[mY,gO,Act.put,v8,v9,bv,bw];refine nu (i:=12) (by kernel_rfl) rfl (by rfl) ?_;unfold iR;go_simp;refine nu (i:=13) (by kernel_rfl) rfl (by rfl) ?_;unfold iR;go_simp;refine qo (by kernel_rfl) ?_ _;go_wp2_with fail;go_meet;exact⟨_,_,_,_,_,_,_,_,rfl,rfl,ak (HE.J _ rfl)⟩);all_goals refineλd x H X b ⟨(l:d _=_),_⟩=>fj (w':=X) ?_ ⟨rfl,ah _ _⟩;obtain⟨⟨K,L,z2,z3⟩,⟨z4,z5,z6⟩,-⟩:=bS.J X ((aH (ah _ _)).trans b);go_simp);case rest=>
    obtain⟨N,P,m,r,n,l,C,A,rfl,rfl,HC⟩:=hcut;obtain⟨W7,h7⟩:=nm wc;subst h7;obtain⟨a5,av,a6,Er⟩:=HC.J;obtain⟨k0,k1⟩:=aR av;clear a5 av a6 Er;go_wp2_with fail;refine(JC _ _ _).mono ?_;rintro _ w8 ⟨rfl,AJ⟩;clear k0 k1;obtain⟨a5,av,a6,Er⟩:=HC.J;have Vs:=Er.trans (AJ.mono Er.size);have bo:=vA AJ _ _ a5;have bt:=vA AJ _ _ av;have be:=a6.below AJ;clear a5 av a6 Er HC AJ;obtain⟨-,-,ab,-,B5,Y1,Ye⟩:=aC.J w8 Vs;obtain⟨f0,f1⟩:=aR ab;have K:=eR ab 0;have L:=eR ab 1
    cases y:Q0 with
    |inl ad=>
      have al:g=ad:=by rw[HG.J,y];rfl
      have b8:(((g.1:Nat):Int) != 0)=true:=by rw[al];simpa using cs.J ad y
      have an:Hid (mZ o.bud (cO tl gl) M pl t c=([],g.1,g.2)):=ak (by rw[HA.J,aE (by simpa using W),y,al]);obtain⟨k0,k1⟩:=aR bt;have ac:=ahP (X:=w8) (x:=ι κ g.1) (y:=ι κ g.2) ab Ye (bE _);have a8:Hid (∀f,f=((w8.setCell (Ad (w.heap.size+1) 0) (ι κ g.1)).setCell (Ad (w.heap.size+1) 1) (ι κ g.2)).drew->(f.cell? (Ad (w.heap.size+1) 0)=σ (ι κ g.1)/\f.cell? (Ad (w.heap.size+1) 1)=σ (ι κ g.2))/\δ w.heap.size w f):=ak (by rintro f rfl;exact⟨ac.1,aH ac.2⟩);clear ac al y W bo bt be ab B5 Y1 Ye Vs;go_wp2_with fail;go_region
      all_goals
       (try go_wp2_with fail)
       obtain⟨f,V⟩:=nm (((w8.setCell (Ad (w.heap.size+1) 0) (ι κ g.1)).setCell (Ad (w.heap.size+1) 1) (ι κ g.2)).drew);rw[<- V];obtain⟨⟨F,G⟩,v⟩:=a8.J f V;refine aB (by simp[results,results47,go_sem,F,G];rfl) rfl ?_;exact⟨by rw[an.J],v⟩
    |inr am=>
      have al:g=(0,0):=by rw[HG.J,y];rfl
      have b8:(((g.1:Nat):Int) != 0)=false:=by rw[al];rfl
      have an:Hid (mZ o.bud (cO tl gl) M pl t c=(xX am.1 am.2,0,0)):=ak (by rw[HA.J,aE (by simpa using W),y]);obtain⟨⟨s1,s2⟩,s3,s4,s5,s6⟩:=be am y;have HT:=ak (abJ s3 s5 s6 s4 (s1 w8 (ae _) (λ_ _ _=>rfl)) s2.batch B5 Y1);obtain⟨y0,y1⟩:=aR bo;have b0:=ak Ye;have co:=ak ab;clear al y W bo bt be ab B5 Y1 Ye Vs s1 s2 s3 s4 s5 s6 f0 f1 K L;go_wp2_with fail;refine HT.J.mono ?_;rintro _ w9 ⟨rfl,Yq⟩;have cd:=b0.J.trans (Yq.mono b0.J.size);have ar:=vA Yq _ _ co.J;obtain⟨f0,f1⟩:=aR ar;have K:=eR ar 0;have L:=eR ar 1;have cn:=ak (gE cd (bE _) ar (ι κ 0) (ι κ 0));clear y0 y1 Yq cd ar;go_wp2_with fail;obtain⟨⟨F,G⟩,v⟩:=cn.J;refine aB (by simp[results,results47,go_sem,F,G];rfl) rfl ?_;exact⟨by rw[an.J];rfl,v⟩
  have b8:(((e.1:Nat):Int) != 0)=true:=(by simpa using W);have an:Hid (mZ o.bud (cO tl gl) M pl t c=([],e.1,e.2)):=ak (by rw[HA.J,aF W]);obtain⟨-,-,zq,-,-,-,b3⟩:=aC.J w5 AG;obtain⟨k0,k1⟩:=aR Fa;obtain⟨f0,f1⟩:=aR zq;have K:=eR zq 0;have L:=eR zq 1;have ac:=ahP (X:=w5) (x:=ι κ e.1) (y:=ι κ e.2) zq b3 (bE _);have a8:Hid (∀f,f=((w5.setCell (Ad (w.heap.size+1) 0) (ι κ e.1)).setCell (Ad (w.heap.size+1) 1) (ι κ e.2)).drew->(f.cell? (Ad (w.heap.size+1) 0)=σ (ι κ e.1)/\f.cell? (Ad (w.heap.size+1) 1)=σ (ι κ e.2))/\δ w.heap.size w f):=ak (by rintro f rfl;exact⟨ac.1,aH ac.2⟩);clear ac;clear Fa AG x8 zq b3 W;go_wp2_with fail;go_region;all_goals (try go_wp2_with fail);obtain⟨f,V⟩:=nm (((w5.setCell (Ad (w.heap.size+1) 0) (ι κ e.1)).setCell (Ad (w.heap.size+1) 1) (ι κ e.2)).drew);rw[<- V];obtain⟨⟨F,G⟩,v⟩:=a8.J f V;refine aB (by simp[results,results47,go_sem,F,G];rfl) rfl ?_;exact⟨by rw[an.J],v⟩
 all_goals refineλd x H X b ⟨(l:d _=_),_⟩=>fj (w':=X) ?_ ⟨rfl,ah _ _⟩;obtain⟨⟨K,L,z2,z3⟩,⟨z4,z5,z6⟩,-⟩:=aC.J X ((aH (ah _ _)).trans b);go_simp
structure Vw (st:pG):Prop where
 tab:∀x∈st.tabs,0<x.2.1.length/\sR x.2.1/\fB x.2.1 x.2.2/\x.2.2.length<=64
 gr:∀u t g tb,eU st.grs (gk u t)=σ g->eU st.tabs (tk t)=σ tb->u.size<=maxLen->t.size<=8->0<g.1.length/\g.1.length<=5/\∀s∈g.1,s<tb.1.length
theorem cQ.fits{o:sE}{w:ω}{p mt mg:Nat}{X:Nat->Prop}{tl:List (Lit×gD)}{gl:List (Lit×ot)}(d:cQ o w p mt mg X tl gl):Vw (cO tl gl) where
 tab:=λr m=>by
  obtain⟨s,n,rfl⟩:=cE.mp (show r∈tl.map _ from m);have a:=d.tab s n;exact⟨a.c0,a.Et,a.fit,a.few⟩
 gr:=λF t g C b c l z=>by
  unfold cO at b c;simp only at b c;rw[gU]at b c;obtain⟨v,i,rfl⟩:=dF.mp b;obtain⟨D,j,rfl⟩:=dF.mp c;obtain⟨G,A,a,x,y,E,f,e⟩:=d.gr _ (mG i);have u:(8:Nat)<=maxLen:=by unfold maxLen;omega
  obtain⟨rfl,rfl⟩:=MP l (by omega) (by omega) (by omega) a;obtain rfl:=wu d.keys f (mG j);exact⟨e.fit.1,e.fit.2.1,e.fit.2.2.1⟩
theorem YE{a:List br}{b:List (List aD)}(e:oq a)(j:0<a.length)(l:fB a b)(x:b.length<=64):1<(xX a b).length/\(xX a b).length<=1000000000/\(xX a b)[(xX a b).length - 1]?=σ 10:=by
 have r:=xA (BQ a) 20 a.length (λf _=>Iw e f);have s:=xA (Iv a b) 10000 b.length (λf _=>Iy e.1 l f);have u:0<(sr a a.length).length:=(by obtain⟨d,c,rfl⟩:∃d c,a=d::c:=(by cases a with|nil=>simp at j|cons d c=>exact⟨d,c,rfl⟩);unfold sr;rw[a7,List.range_succ_eq_map,gQ,az];have:0<(BQ (d::c) 0).length:=(by simp[BQ];omega);omega);have v:=e.1;have m:(xX a b).length=(sr a a.length).length+1+(oo a b b.length).length:=by unfold xX;simp;omega
 refine⟨by omega,?_,?_⟩;{unfold sr oo at m;have:a.length*20<=6040:=(by omega);have:b.length*10000<=640000:=(by omega);omega}
 rw[<- List.getLast?_eq_getElem?]
 unfold xX
 cases b with
 |nil=>simp[oo]
 |cons i c=>
   have n:=De (cols:=a) (R:=i::c) (r:=c.length) (row:=(i::c)[c.length]'(by simp)) (af _);rw[a7,n,<- cj];exact List.getLast?_concat
theorem ac6{st:pG}(r:Vw st)(D:m.size<=maxLen)(C:l.size<=8){e:XI}(b:zu st m l=σ e):0<e.1.length/\sR e.1/\fB e.1 e.2/\e.2.length<=64:=by
 unfold zu at b
 cases hl:eU st.tabs (tk l)with
 |none=>rw[hl]at b;cases b
 |some d=>
   rw[hl]at b;simp only at b;obtain⟨v,n,x,y⟩:=r.tab _ (mG hl);have s:∀(a:List Nat) (c:List aD->dj),0<a.length->a.length<=5->(∀u∈a,u<d.1.length)->0<(tV a c d).1.length/\sR (tV a c d).1/\fB (tV a c d).1 (tV a c d).2/\(tV a c d).2.length<=64:=λa c i j f=>
    ⟨by unfold tV;rw[aQ];exact i,IC n j f,IE x f c,ag (vY _ _ _) y⟩
   split at b
   . cases b
     exact s _ _ (by rw[cV];exact v) (by rw[cV];exact n.1) (λu A=>dB.mp A)
   . obtain⟨g,z,rfl⟩:=dF.mp b
     obtain⟨i,j,f⟩:=r.gr m l g d z hl D C;exact s _ _ i j f
theorem T6{S:ByteArray}(a:Gs S=true):∃b c,iG S=.inl (.query (b::c))/\nw b.table/\b.pl<=300/\(∀d∈c,xw d)/\(b::c).Pairwise (λd r=>d.pl<=r.pl)/\¬300<S.size:=by
 have n:¬300<S.size:=λf=>by
  unfold Gs iG at a;rw[aF f]at a
  cases a
 unfold Gs at a;split at a;{rename_i s e;obtain⟨b,c,rfl,i,j,l,-,m⟩:=Pc e;exact⟨b,c,e,i,j,l,m,n⟩};cases a
theorem Aj{S:ByteArray}{st:pG}{a:gx}{b:List gx}(d:iG S=.inl (.query (a::b)))(c:¬300<S.size):sF v st m S=(Di v st m a.pl a.table b,st):=by rw[xD c d];rfl
theorem xH{S:ByteArray}{bud:Nat}{st:pG}(u:Vw st)(x:Gs S=true)(z:m.size<=maxLen):TT (sF bud st m S).1:=by
 obtain⟨d,G,y,b,r,c,-,v⟩:=T6 x;rw[Aj y v];simp only;unfold Di mZ
 cases hv:zu st m d.table.1 with
 |none=>exact .inl ⟨by simp,rfl,by simp,b.2⟩
 |some a=>
   simp only;have e:=Vr c;split
   . rename_i s
     have:=PW (cols:=a.1) (λf A=>(e f A).2);exact .inl ⟨s,rfl,by simp only;omega,this.2⟩
   . obtain⟨C,D,E,F⟩:=ac6 u z b.1 hv
     cases hQ:kh bud d.pl a.1 a.2 (G.map qu)with
     |inl g=>
       have:=acQ e r hQ;exact .inl ⟨Fo hQ,rfl,this.1,this.2⟩
     |inr f=>
       unfold kh at hQ;split at hQ
       . cases hQ
       . obtain⟨i,j,l,n⟩:=Vq (P0 c) D.few C E F hQ
         obtain⟨H,I,K⟩:=YE i j l n;exact .inr ⟨rfl,H,I,K,rfl⟩
theorem tY{S user:ByteArray}{bud:Nat}{st:pG}(b:Gs S=true):(sF bud st user S).2=st:=by obtain⟨e,d,c,-,-,-,-,a⟩:=T6 b;rw[Aj c a]
theorem T7{st:pG}{e:Bi}(a:(lB st e).1.1≠0):(lB st e).2=st:=by
 cases e with
 |create t cols=>
   simp only[lB,qv]at a ⊢;split
   . rfl
   . rename_i c
     rw[aE c]at a
     cases hc:zw cols []with
     |inl f=>rfl
     |inr u=>
       rw[hc]at a;simp only at a ⊢;split
       . rfl
       . rename_i b;rw[aE b]at a;exact absurd rfl a
 |drop t=>
   simp only[lB,Fc]at a ⊢;split
   . rename_i c;rw[aF c]at a;exact absurd rfl a
   . rfl
 |load t r=>
   simp only[lB,Bg]at a ⊢
   cases hl:eU st.tabs (tk t.1)with
   |none=>rfl
   |some d=>
     rw[hl]at a;simp only at a ⊢
     cases hf:r.findSome? (λn=>fY n d.1)with
     |some f=>rfl
     |none=>
       rw[hf]at a;simp only at a ⊢;split
       . rfl
       . rename_i b;rw[aE b]at a;exact absurd rfl a
 |vB s t i j v=>
   simp only[lB,vt]at a ⊢
   cases hl:eU st.tabs (tk t.1)with
   |none=>rfl
   |some d=>
     rw[hl]at a;simp only at a ⊢
     cases hs:fy d.1 i []with
     |inl l=>rfl
     |inr x=>
       rw[hs]at a;simp only at a ⊢
       cases hk:cH d.1 j with
       |inr l=>rfl
       |inl k=>
         rw[hk]at a;simp only at a ⊢;split
         . rfl
         . rename_i b
           rw[aE b]at a;split
           . rfl
           . rename_i m;rw[aE m]at a;exact absurd rfl a
 |wI s t=>
   simp only[lB,uM]at a ⊢;split
   . rename_i c;rw[aF c]at a;exact absurd rfl a
   . rfl
 |query y=>rfl
theorem T8{st:pG}{d:Bi}(b:(sw v st m d).1.2.1≠0):(sw v st m d).2=st:=by
 have c:∀a:Bi,(if iZ m iV then((([]:List UInt8),(lB st a).1.1,(lB st a).1.2),(lB st a).2)else(([],4,0),st)).1.2.1≠0->(if iZ m iV then((([]:List UInt8),(lB st a).1.1,(lB st a).1.2),(lB st a).2)else(([],4,0),st)).2=st:=λa e=>by
  split
  . rename_i f
    rw[aF f]at e;exact T7 e
  . rfl
 cases d with
 |query s=>rfl
 |create t cols=>exact c _ b
 |drop t=>exact c _ b
 |load t r=>exact c _ b
 |vB i t j l n=>exact c _ b
 |wI i t=>exact c _ b
theorem T9{st:pG}{S:ByteArray}(b:(sF v st m S).1.2.1≠0):(sF v st m S).2=st:=by
 by_cases a:300<S.size;{unfold sF;rw[aF a]}
 cases hr:iG S with
 |inr q=>rw[Dl a hr]
 |inl c=>rw[xD a hr]at b ⊢;exact T8 b
theorem akX{st:pG}{S:ByteArray}{d:Bi}(b:iG S=.inl d)(c:Gs S=false)(a:iZ m iV=false):(sF v st m S).1=([],4,0):=by
 have f:¬300<S.size:=λe=>by
  unfold iG at b;rw[aF e]at b
  cases b
 rw[xD f b];unfold Gs at c;rw[b]at c
 cases d with
 |query s=>cases c
 |create t cols=>simp[sw,a]
 |drop t=>simp[sw,a]
 |load t r=>simp[sw,a]
 |vB i t j l n=>simp[sw,a]
 |wI i t=>simp[sw,a]
theorem Ua{b b':Nat}{st:pG}{S:ByteArray}:(sF b st m S).2=(sF b' st m S).2:=by
 by_cases a:300<S.size;{unfold sF;rw[aF a,aF a]}
 cases hr:iG S with
 |inr q=>rw[Dl a hr,Dl a hr]
 |inl c=>
   rw[xD a hr,xD a hr]
   cases c<;>rfl
theorem Qj(l:v<=f){st:pG}{user S:ByteArray}(C:Gs S=true):((sF v st user S).1.2.1≠10->(sF v st user S).1=(sF f st user S).1)/\((sF v st user S).1.2.1=10->(sF f st user S).1.2.1≠10\/(sF v st user S).1.2.2<=(sF f st user S).1.2.2):=by
 obtain⟨d,c,r,-,-,z,E,m⟩:=T6 C;rw[Aj r m,Aj r m];simp only;unfold Di mZ
 cases zu st user d.table.1 with
 |none=>simp
 |some e=>
   simp only;split
   . exact⟨λ_=>rfl,λ_=>.inr (ae _)⟩
   . obtain⟨x,u⟩:=bk.mp E
     have G:=Vr z;have k:∀a∈c.map qu,d.pl<=a.1/\zA a.2:=λa s=>by
      refine⟨?_,(G a s).2⟩;obtain⟨i,F,rfl⟩:=cE.mp s;exact x i F
     have D:(c.map qu).Pairwise (λa i=>a.1<=i.1):=nP.mpr u;refine⟨λn=>?_,λb=>?_⟩
     . rw[TQ l (λg A=>by rw[A]at n;exact n)]
     . cases hQ:kh v d.pl e.1 e.2 (c.map qu)with
       |inr a=>rw[hQ]at b;simp at b
       |inl g=>
         rw[hQ]at b
         cases hQ':kh f d.pl e.1 e.2 (c.map qu)with
         |inr a=>exact .inl (by simp)
         |inl y=>
           by_cases j:y.1=10
           . exact .inr (PZ l k D hQ b hQ' j)
           . exact .inl j
def aT:ByteArray:=⟨#[99,114,101,97,116,101,32,116,32,40,97,32,105,110,116,41]⟩
def bT:ByteArray:=⟨#[108,111,97,100,32,116,32,40,49,41,40,50,41]⟩
def cT:ByteArray:=⟨#[102,114,111,109,32,116]⟩
def zD:List UInt8:=[97,58,105,110,116,10,49,10,50,10]
def st0:pG:=⟨[],[]⟩
def st1:pG:=⟨[(tk ⟨#[116]⟩,([(⟨#[97]⟩,0)],[]))],[]⟩
def st2:pG:=⟨[(tk ⟨#[116]⟩,([(⟨#[97]⟩,0)],[[⟨false,1,⟨#[]⟩⟩],[⟨false,2,⟨#[]⟩⟩]]))],[]⟩
theorem akY:iG aT=.inl (.create (⟨#[116]⟩,7) [((⟨#[97]⟩,10),0)]):=by kernel_rfl
theorem akZ:∃a b c d,iG bT=.inl (.load (⟨#[116]⟩,5) [⟨a,[⟨c,0,false,1,⟨#[]⟩⟩]⟩,⟨b,[⟨d,0,false,2,⟨#[]⟩⟩]⟩]):=⟨7,10,8,11,by kernel_rfl⟩
theorem ak0:iG cT=.inl (.query [{ bare kW 0 with table:=(⟨#[116]⟩,5) }]):=by kernel_rfl
theorem awd:sF 1000 st0 iV aT=(([],0,0),st1):=by rw[xD (by decide) akY];kernel_rfl
theorem awe:sF 1000 st1 iV bT=(([],0,0),st2):=by obtain⟨b,c,d,e,a⟩:=akZ;rw[xD (by decide) a];rfl
theorem awf:(sF 1000 st2 iV cT).1=(zD,0,0):=by rw[xD (by decide) ak0];kernel_rfl
end
