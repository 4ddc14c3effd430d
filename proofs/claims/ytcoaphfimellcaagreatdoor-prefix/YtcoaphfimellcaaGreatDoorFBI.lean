import Derived.Test.YtcoaphfimellcaaGreatDoorFBF
import Derived.Test.YtcoaphfimellcaaGreatDoorFBH
import Derived.Test.YtcoaphfimellcaaGreatDoorFAT
set_option maxHeartbeats 0
set_option maxRecDepth 100000
namespace Go.Proofs.YtcoaphfimellcaaGreatDoor
open Go.RowKit
open _root_.Go.Proofs.Tryz
open Option renaming some→σ,none→ν
open Go.IntKind renaming i64→κ
open Go.Ending renaming returned→τ
open Go.Obj renaming cells→ξ
open Go renaming World→ω,Value→υ
open Go.RowKit renaming Below→δ
open Go.Value renaming int→ι,string→θ,slice→ψ,pointer→π,agg→χ
variable{m n b a y z j:υ}{x r:ByteArray}{v e W:Nat}{l:ω}{i:List υ}{s:Nat->Prop}{u:List Nat}{c:Nat×Nat}{d:TypeId}{f:Int}
section
open Go.Maps
structure ij where
 q:Nat
 cv:υ
 sv:υ
 vs:List υ
 cols:List bu
 Cs:List (List (List aB))
structure oV where
 shv:υ
 wv:υ
 sh:List Nat
 e:Ex
 a:ω
 lo:Nat
abbrev aaf:=List bu×List (List aB)
abbrev GrP:=List Nat×Ex
structure qV where
 tabs:List (Lit×aaf)
 grs:List (Lit×GrP)
def ij.told(t:ij):aaf:=(t.cols,t.Cs.flatten)
def oV.told(g:oV):GrP:=(g.sh,g.e)
def ij.val(t:ij):υ:=π (σ ⟨t.q,0,ν⟩)
def oV.val(g:oV):υ:=χ #[g.shv,g.wv]
def ael(cols:List bu)(g:GrP):Prop:=0<g.1.length/\g.1.length<=5/\(∀s∈g.1,s<cols.length)/\pI g.2/\cL cols g.2=.inl 2
structure Eg (o:uS)(w:ω)(X:Nat->Prop)(t:ij):Prop where
 fQ:w.heap[t.q]?=σ (ξ #[t.cv,t.sv,ι κ t.Cs.flatten.length] 205 (0,0))
 own:w.ownsRow 0 265 1 t.sv t.Cs.length t.vs
 off:t.sv.ownBlock≠σ t.q
 KR:eT w t.cv t.cols
 tC:qK w t.cols t.vs t.Cs
 On:kI X t.cv
 Lt:∀u∈t.vs,kI X u
 chk:oe o.seg t.Cs
 fit:fH t.cols t.Cs.flatten
 few:t.Cs.flatten.length<=64
 Fs:uc t.cols
 c0:0<t.cols.length
structure aag (w:ω)(X:Nat->Prop)(cols:List bu)(g:oV):Prop where
 shr:ia w g.shv g.sh
 shn:kI X g.shv
 work:dX g.a g.lo g.wv (iy cols) (λrow=>cU cols row g.e)
 kept:gq g.lo g.a.heap.size g.a w
 away:∀b,g.lo<=b->b<g.a.heap.size->¬X b
 fit:ael cols g.told
def zg(mt mg:Nat)(tl:List (Lit×ij))(b:Nat):Prop:=b=mt\/b=mg\/∃x∈tl,lF x.2.q x.2.sv b
structure df (o:uS)(w:ω)(p mt mg:Nat)(X:Nat->Prop)(tl:List (Lit×ij))(gl:List (Lit×oV)):Prop where
 fQ:w.heap[p]?=σ (ξ #[ι κ o.seg,ι κ o.pk,ι κ o.wd,.bool o.prune,.bool o.push,ι κ o.bud,.map (σ mt),.map (σ mg)] 73 (0,0))
 Ch:lS w 9 mt (gQ ij.val tl)
 Ci:lS w 198 mg (gQ oV.val gl)
 ne:mt≠mg
 tab:∀x∈tl,Eg o w X x.2
 apart:tl.Pairwise (λx y=>∀b,lF x.2.q x.2.sv b->¬lF y.2.q y.2.sv b)
 gr:∀x∈gl,∃u t:ByteArray,x.1=gk u t/\u.size<=8/\t.size<=8/\∃tc,(tk t,tc)∈tl/\aag w X tc.cols x.2
 names:∀x∈tl,∃t:ByteArray,x.1=tk t/\t.size<=8
 sub:∀b,zg mt mg tl b->X b
 sV:∀b,X b->b<w.heap.size
 pX:¬X p
 few:tl.length<=4/\gl.length<=8
section
variable {o:uS} {w w':ω} {p mt mg:Nat} {X X':Nat->Prop} {tl:List (Lit×ij)} {gl:List (Lit×oV)} {t:ij} {g:oV} {cols:List bu}
theorem kI.mono{a:Nat->Prop}(e:kI s m)(f:∀b,a b->s b):kI a m:=λc l d j i=>e c l d j (f _ i)
theorem bz.away{size:Nat}(j:bz w size m v i)(s:kI X m)(l:0<v)(n:∀a,X' a->X a\/w.heap.size<=a):kI X' m:=λb f c e r=>by
 rcases n _ r with d|d
 . exact s b f c e d
 . have:=bz.inside j l b f c e;omega
structure Gc (w w':ω)(X X':Nat->Prop):Prop where
 size:w.heap.size<=w'.heap.size
 block:∀b,b<w.heap.size->¬X b->w'.heap[b]?=w.heap[b]?
 grows:∀b,X' b->X b\/w.heap.size<=b
theorem Eg.stays(a:Eg o w X t)(b:Gc w w' X X')(m:w'.heap[t.q]?=w.heap[t.q]?)(n:∀k,t.sv.ownBlock=σ k->w'.heap[k]?=w.heap[k]?):Eg o w' X' t where
 fQ:=m.trans a.fQ
 own:=fC a.own n
 off:=a.off
 KR:=bz.moves a.KR a.On b.size b.block
 tC:=a.tC.moves a.Lt b.size b.block
 On:=bz.away a.KR a.On a.c0 b.grows
 Lt:=λf d=>by
  obtain⟨e,c⟩:=dK d;have r:=(aj.mp c).1;obtain⟨u,i,j⟩:=a.tC.2 e f (t.Cs[e]'(by rw[<- a.tC.1];exact r)) c (af _);have s:0<u.length:=by have l:=j.1;have:=a.c0;rw[aR]at l;omega
  exact bz.away i (a.Lt f d) s b.grows
 chk:=a.chk
 fit:=a.fit
 few:=a.few
 Fs:=a.Fs
 c0:=a.c0
theorem aag.stays(a:aag w X cols g)(b:Gc w w' X X'):aag w' X' cols g where
 shr:=bz.moves a.shr a.shn b.size b.block
 shn:=bz.away a.shr a.shn a.fit.1 b.grows
 work:=a.work
 kept:=⟨ag a.kept.1 b.size,λk d c=>(b.block k (ai c a.kept.1) (a.away k d c)).trans (a.kept.2 k d c)⟩
 away:=λe d c i=>by
  rcases b.grows e i with f|f
  . exact a.away e d c f
  . have:=a.kept.1;omega
 fit:=a.fit
theorem lF.inside(a:Eg o w X t)(c:lF t.q t.sv v):v<w.heap.size:=by rcases c with rfl|b;{exact ay a.fQ};exact(a.own.lt v b).2
theorem df.stays(a:df o w p mt mg X tl gl)(f:Gc w w' X X')(e:∀b,zg mt mg tl b->w'.heap[b]?=w.heap[b]?)(s:∀b,X b->X' b)(x:∀b,X' b->b<w'.heap.size):df o w' p mt mg X' tl gl where
 fQ:=(f.block p (ay a.fQ) a.pX).trans a.fQ
 Ch:=a.Ch.kept (e mt (.inl rfl))
 Ci:=a.Ci.kept (e mg (.inr (.inl rfl)))
 ne:=a.ne
 tab:=λd c=>(a.tab d c).stays f (e _ (.inr (.inr ⟨d,c,.inl rfl⟩))) (λk v=>e k (.inr (.inr ⟨d,c,.inr v⟩)))
 apart:=a.apart
 gr:=λd c=>by
  obtain⟨z,t,j,l,m,y,n,r⟩:=a.gr d c;exact⟨z,t,j,l,m,y,n,r.stays f⟩
 names:=a.names
 sub:=λb u=>s b (a.sub b u)
 sV:=x
 pX:=λc=>by
  rcases f.grows p c with i|i
  . exact a.pX i
  . have:=ay a.fQ;omega
 few:=a.few
theorem df.below(c:df o w p mt mg X tl gl)(b:δ w.heap.size w w'):df o w' p mt mg X tl gl:=
 c.stays ⟨b.size,λa d _=>b.block a d,λ_ b=>.inl b⟩ (λa e=>b.block a (c.sV a (c.sub a e))) (λ_=>id) (λa f=>ai (c.sV a f) b.size)
end
def de(tl:List (Lit×ij))(gl:List (Lit×oV)):qV:=⟨gQ ij.told tl,gQ oV.told gl⟩
def lX:ByteArray:=⟨#[97,100,109,105,110]⟩
def vf(sh:List Nat)(F:List aB->dm)(t:aaf):aaf:=(sh.map λs=>t.1.getD s default,kR F sh t.2)
def xk(st:qV)(user table:ByteArray):Option aaf:=
 match fU st.tabs (tk table)with
 |none=>ν
 |some t=>if jN user lX then σ (vf (List.range t.1.length) (λ_=>.inl (pY 1)) t)else(fU st.grs (gk user table)).map λg=>vf g.1 (λrow=>cU t.1 row g.2) t
abbrev Vy:=List UInt8×Nat×Nat
def lM(bud:Nat)(st:qV)(user:ByteArray)(pl:Nat)(t:Nm)(ss:List mK):Vy:=
 match xk st user t.1 with
 |none=>([],5,t.2)
 |some v=>if(gw v.1 ss).1≠0 then([],(gw v.1 ss).1,(gw v.1 ss).2)else match ng bud pl v.1 v.2 ss with
   |.inl g=>([],g.1,g.2)
   |.inr x=>(sU x.1 x.2,0,0)
def qv(s:eZ):mK:=(s.pl,if jN s.word dR then(match s.exprs with|(e,f)::_=>.gK e f|[]=>.gF s.pl)else if jN s.word qD then .mapA (s.names.zip s.exprs)else if jN s.word dJ then .kh s.n else .gF s.pl)
def Bj(bud:Nat)(st:qV)(user:ByteArray)(pl:Nat)(t:Nm)(ss:List eZ):Vy:=lM bud st user pl t (ss.map qv)
def Cj:List (Nm×Nat)->List bu->Nat ⊕ List bu
 |[],l=>.inr l
 |c::r,l=>if 0<=zl l c.1.1 then .inl c.1.2 else Cj r (l++[(c.1.1,c.2)])
def sC(st:qV)(t:Nm)(cols:List (Nm×Nat)):(Nat×Nat)×qV:=
 if(fU st.tabs (tk t.1)).isSome then((6,t.2),st)
 else match Cj cols []with
  |.inl b=>((6,b),st)
  |.inr l=>if 4<=st.tabs.length\/5<l.length then((8,0),st)else((0,0),⟨qU st.tabs (tk t.1) (l,[]),st.grs⟩)
noncomputable def JV (st:qV)(t:Nm):(Nat×Nat)×qV:=
 if(fU st.tabs (tk t.1)).isSome then((0,0),⟨qA st.tabs (tk t.1),st.grs.filter λx=>!@decide (∃u:ByteArray,u.size<=8/\x.1=gk u t.1) (Classical.propDecidable _)⟩)else((5,t.2),st)
def yB(st:qV)(u t:Nm):(Nat×Nat)×qV:=
 if(fU st.grs (gk u.1 t.1)).isSome then((0,0),⟨st.tabs,qA st.grs (gk u.1 t.1)⟩)else((5,u.2),st)
def xl:List Bs->List bu->Option Nat
 |v::r,c::l=>if !v.null&&!decide (v.kind=(c.2:Int))then σ v.pl else xl r l
 |_,_=>ν
def iz(r:wj)(cols:List bu):Option Nat:=if r.vals.length≠cols.length then σ r.pl else xl r.vals cols
def JW(r:wj):List aB:=r.vals.map λv=>⟨v.null,v.n,v.s⟩
def yC{B:Type}(T:List (Lit×B))(k:Lit)(b:B):List (Lit×B):=T.map λp=>if p.1.sameKey k then(p.1,b)else p
def Eh(st:qV)(t:Nm)(rows:List wj):(Nat×Nat)×qV:=
 match fU st.tabs (tk t.1)with
 |none=>((5,t.2),st)
 |some tb=>match rows.findSome? (λr=>iz r tb.1)with
   |some b=>((7,b),st)
   |none=>if 64<tb.2.length+rows.length then((8,0),st)else((0,0),⟨yC st.tabs (tk t.1) (tb.1,tb.2++rows.map JW),st.grs⟩)
def gG(cols:List bu):List Nm->List Nat->(Nat×Nat) ⊕ List Nat
 |[],l=>.inr (l.mergeSort (λa b=>decide (a<=b)))
 |n::r,l=>if zl cols n.1<0 then .inl (5,n.2)else if l.contains (zl cols n.1).toNat then .inl (6,n.2)else gG cols r (l++[(zl cols n.1).toNat])
def yD(st:qV)(u t:Nm)(cs:List Nm)(e:Ex)(pl:Nat):(Nat×Nat)×qV:=
 match fU st.tabs (tk t.1)with
 |none=>((5,t.2),st)
 |some tb=>match gG tb.1 cs []with
   |.inl f=>(f,st)
   |.inr sh=>match cL tb.1 e with
     |.inr f=>(f,st)
     |.inl k=>if k≠2 then((7,pl),st)else if(fU st.grs (gk u.1 t.1)).isNone/\8<=st.grs.length then((8,0),st)else((0,0),⟨st.tabs,qU st.grs (gk u.1 t.1) (sh,e)⟩)
noncomputable def yE (st:qV):Bt->(Nat×Nat)×qV
 |.create t cols=>sC st t cols
 |.drop t=>JV st t
 |.load t rows=>Eh st t rows
 |.BP u t cs e pl=>yD st u t cs e pl
 |.ED u t=>yB st u t
 |.query _=>((0,0),st)
noncomputable def oE (bud:Nat)(st:qV)(user text:ByteArray):Vy×qV:=
 if 300<text.size then(([],1,0),st)
 else match fg text with
  |.inr q=>(([],q.1,q.2),st)
  |.inl (.query ss)=>(match ss with|s::r=>Bj bud st user s.pl s.table r|[]=>([],0,0),st)
  |.inl c=>if jN user lX then(([],(yE st c).1.1,(yE st c).1.2),(yE st c).2)else(([],4,0),st)
theorem aah{wr:ω}{t:TypeId}(c:wr.heap[v]?=σ (ξ #[m,n,b] t (0,0))):(((wr.setCell (Ad v 0) a).setCell (Ad v 1) y).setCell (Ad v 2) z).heap[v]?=σ (ξ #[a,y,z] t (0,0)):=
 aQ _ v 2 _ _ z (aQ _ v 1 _ _ y (aQ _ v 0 _ _ a c))
theorem Vz{wr:ω}{k:Nat}(a:k≠v):(((wr.setCell (Ad v 0) m).setCell (Ad v 1) n).setCell (Ad v 2) b).heap[k]?=wr.heap[k]?:=
 (az _ _ _ _ a).trans ((az _ _ _ _ a).trans (az _ _ _ _ a))
theorem fq{w1:ω}{g:υ}{t:TypeId}(c:w1.heap[v]?=σ (ξ #[m,n,b,a,y,z,g,j] t (0,0))):w1.cell? (Ad v 0)=σ m/\w1.cell? (Ad v 1)=σ n/\w1.cell? (Ad v 2)=σ b/\w1.cell? (Ad v 3)=σ a/\w1.cell? (Ad v 4)=σ y/\w1.cell? (Ad v 5)=σ z/\w1.cell? (Ad v 6)=σ g/\w1.cell? (Ad v 7)=σ j:=by simp[World.cell?,c]
theorem df.find{o:uS}{w:ω}{p mt mg:Nat}{X:Nat->Prop}{tl:List (Lit×ij)}{gl:List (Lit×oV)}(a:df o w p mt mg X tl gl)(b:x.size<=maxLen):(Instr.lookup 70 (.map (σ mt)) (θ x) false).run prog w=.ok (match fU tl (tk x)with|some t=>t.val|none=>π ν) w:=by rw[a.Ch.look Tryz.OU underlying70 (Vw b) (Vx w),iM];cases fU tl (tk x)<;>rfl
theorem df.MR{o:uS}{w:ω}{p mt mg:Nat}{X:Nat->Prop}{tl:List (Lit×ij)}{gl:List (Lit×oV)}(a:df o w p mt mg X tl gl)(c:x.size<=maxLen)(b:r.size<=maxLen):(Instr.lookup 71 (.map (σ mg)) (χ #[θ x,θ r]) true).run prog w=.ok (.tuple #[match fU gl (gk x r)with|some g=>g.val|none=>χ #[ψ ν 0 0,.nilFunc],.bool (fU gl (gk x r)).isSome]) w:=by rw[a.Ci.aq7 Tryz.ud underlying71 (JU c b) (OW w),iM];cases fU gl (gk x r)<;>rfl
def anc(w':ω)(tl:List (Lit×ij))(st:qV)(user table:ByteArray)(r:Ending):Prop:=
 ∃(tv shv wv:υ) (b:Bool),r=τ (.tuple #[χ #[tv,shv,wv],.bool b])/\((∃ta,tv=.pointer ta)/\(∃a n c,shv=ψ a n c)/\(wv=.nilFunc\/∃k c,wv=.func (.func k) #[] c))/\((b=false/\xk st user table=ν)\/(b=true/\∃(tc:ij) (sh:List Nat) (F:List aB->dm) (a:ω) (lo:Nat),fU tl (tk table)=σ tc/\tv=tc.val/\ia w' shv sh/\dX a lo wv (iy tc.cols) F/\gq lo a.heap.size a w'/\(∀row,iy tc.cols row->∀c,F row=.inl c->rI c)/\0<sh.length/\sh.length<=5/\(∀s∈sh,s<tc.cols.length)/\xk st user table=σ (vf sh F tc.told)))
theorem nX(a:Addr)(b:Go.Mode)(w:ω):(store a .nilFunc b).run prog w=stored prog w a .nilFunc b:=run_store prog w a _ b rfl
theorem aem{w:ω}(d:ia w m u)(e:0<u.length)(f:∀o c,w.cell? (Ad v o)≠σ (ι κ c)):kI (λk=>k=v) m:=λl c n j a=>by
 have⟨g,o,r,b,i⟩:=ia.get d (af e);rw[j]at b
 cases b
 simp at a;subst a;exact f _ _ i
theorem aai{w:ω}{t:TypeId}(d:w.heap[v]?=σ (ξ #[m,n,b] t (0,0)))(e:∀c,m≠ι κ c)(f:∀c,n≠ι κ c)(i:∀c,b≠ι κ c):∀o c,w.cell? (Ad v o)≠σ (ι κ c):=λo c a=>by
 match o,a with
 |0,a=>simp[World.cell?,d]at a;exact e c a
 |1,a=>simp[World.cell?,d]at a;exact f c a
 |2,a=>simp[World.cell?,d]at a;exact i c a
 |o+3,a=>simp[World.cell?,d]at a
theorem xm{B:Type}{T:List (Lit×B)}(f:T.Pairwise (λp q=>p.1≠q.1)){k:Lit}{c d:B}(a:(k,c)∈T)(b:(k,d)∈T):c=d:=by
 induction T with
 |nil=>simp at a
 |cons m l j=>
  have⟨e,i⟩:=bj.mp f;rw[bq]at a b;rcases a with a|a<;>rcases b with b|b
  {rw[<- a]at b;exact(Prod.mk.inj b).2.symm};{exact absurd (by rw[<- a]) (e _ b)};{exact absurd (by rw[<- b]) (e _ a)};exact j i a b
theorem df.keys{o:uS}{w:ω}{p mt mg:Nat}{X:Nat->Prop}{tl:List (Lit×ij)}{gl:List (Lit×oV)}(a:df o w p mt mg X tl gl):tl.Pairwise (λp q=>p.1≠q.1):=by have:=a.Ch.apart Tryz.OU;unfold gQ at this;exact(ox.mp this).imp id
theorem VA{o:uS}{w:ω}{p mt mg:Nat}{X:Nat->Prop}{tl:List (Lit×ij)}{gl:List (Lit×oV)}(r:df o w p mt mg X tl gl){table:ByteArray}(H:x.size<=maxLen)(v:table.size<=maxLen) :
 Calls prog 67 #[π (σ (Ad p 0)),θ x,θ table] w λaq w'=>anc w' tl (de tl gl) x table aq/\δ w.heap.size w w':=by
 have W:δ w.heap.size w (w.alloc (Pt (π ν) ν 0 0 .nilFunc)):=(ah _ _).alloc (ae _) _;have s:=r.below W;have F:=s.find v;have⟨s0,s1,s2,s3,s4,s5,s6,s7⟩:=fq r.fQ;have hp:=ay r.fQ;have M:=au (ak w (Pt (π ν) ν 0 0 .nilFunc));have C:=au r;have H1:=au s;have A:=au W;cases hl:fU tl (tk table)with
 |none=>have HV:Hid (xk (de tl gl) x table=ν):=au (by unfold xk de;simp only;rw[iM,hl];rfl);simp only[hl]at F;have Y:=nX;go_in;go_wp2_with fail;have⟨q0,q1,q2⟩:=bf M.J;refine aD (by simp[results,results67,go_sem];rfl) rfl ?_;exact⟨⟨_,_,_,_,rfl,⟨⟨_,rfl⟩,⟨_,_,_,rfl⟩,.inl rfl⟩,.inl ⟨rfl,HV.J⟩⟩,A.J⟩
 |some a=>
  simp only[hl]at F;unfold ij.val at F;have Z:=nh hl;have j:=s.tab _ Z;have D:=au j;have d:Hid (xk (de tl gl) x table=if jN x lX then σ (vf (List.range a.cols.length) (λ_=>.inl (pY 1)) a.told)else(fU (gQ oV.told gl) (gk x table)).map λg=>vf g.1 (λrow=>cU a.cols row g.2) a.told):=au (by unfold xk de;simp only;rw[iM,hl];rfl);have L:=au hl;by_cases u:x=lX
  .have aa:=au (Jh j.fQ j.KR j.Fs.1 (iy a.cols))
   rw[u]at d;subst u;unfold lX;go_in;go_wp2_with fail;refine aa.J.mono ?_;rintro ax w1 ⟨a1,wv,V,rfl,y,R,oA,O⟩;obtain⟨z,n,rfl⟩:=bz.slice y;rw[dj]at y;have ap:=R;obtain⟨e,f,rfl,-⟩:=ap;have i:=(O.block _ (by simp)).trans M.J;have⟨q0,q1,q2⟩:=bf i;have z0:=fP i 0;have z1:=fP i 1;have z2:=fP i 2;have lV:w.heap.size<w1.heap.size:=ay i;have ar:=jz e f;have Y:=nX;have ac:Hid (∀W9,W9=((w1.setCell (Ad w.heap.size 0) (π (σ (Ad a.q 0)))).setCell (Ad w.heap.size 1) (ψ z a.cols.length n)).setCell (Ad w.heap.size 2) (.func (.func e) #[] f)->(W9.cell? (Ad w.heap.size 0)=σ (π (σ (Ad a.q 0)))/\W9.cell? (Ad w.heap.size 1)=σ (ψ z a.cols.length n)/\W9.cell? (Ad w.heap.size 2)=σ (.func (.func e) #[] f))/\ia W9 (ψ z a.cols.length n) (List.range a.cols.length)/\dX W9 V (.func (.func e) #[] f) (iy a.cols) (λ_=>.inl (pY 1))/\δ w.heap.size w W9):=au (by
    intro W9 c;have oy:(w.alloc (Pt (π ν) ν 0 0 .nilFunc)).heap.size=w.heap.size+1:=by simp
    have Jk:=aem y (by rw[dj];exact D.J.c0) (aai i (by simp) (by simp) (by simp));refine⟨bf (t:=145) (by rw[c];exact aah i),bz.moves y Jk (by rw[c];simp[World.setCell]) (λav _ hb=>by rw[c];exact Vz hb),by rw[c];exact((R.set (by omega)).set (by omega)).set (by omega),?_⟩;rw[c];exact(((A.J.trans (O.mono (by omega))).setCell (ae _) _).setCell (ae _) _).setCell (ae _) _)
   go_wp2_with fail;have⟨W9,c⟩:=nm (((w1.setCell (Ad w.heap.size 0) (π (σ (Ad a.q 0)))).setCell (Ad w.heap.size 1) (ψ z a.cols.length n)).setCell (Ad w.heap.size 2) (.func (.func e) #[] f));rw[<- c];have⟨⟨y0,y1,y2⟩,k3,k4,k5⟩:=ac.J W9 c;refine aD (by simp[results,results67,go_sem,y0,y1,y2];rfl) rfl ?_;have GJ:=D.J.c0;have am:=D.J.Fs.1;refine⟨⟨_,_,_,_,rfl,⟨⟨_,rfl⟩,⟨_,_,_,rfl⟩,.inr ⟨_,_,rfl⟩⟩,.inr ⟨rfl,a,List.range a.cols.length,_,W9,V,L.J,rfl,k3,k4,⟨ae _,λ_ _ _=>rfl⟩,λrow _ al G=>by cases G;exact .inr (.inr rfl),by rw[dj];exact GJ,by rw[dj];exact am,λaC hs=>dM.mp hs,d.J.trans (aF (by decide))⟩⟩,k5⟩
  have fy:(x.toList==[97,100,109,105,110])=false:=(by rw[eD];cases he:jN x (bs [97,100,109,105,110])with|false=>rfl|true=>exact absurd (kA.mp he) u);have YM:jN x lX=false:=(by cases he:jN x lX with|false=>rfl|true=>exact absurd (kA.mp he) u);rw[YM,aE (by simp)]at d;have P:=A.J.alloc (w:=w.alloc (Pt (π ν) ν 0 0 .nilFunc)) (by simp) (obR ν 0 0 .nilFunc);have l:=s.MR H v;have m:=(C.J.below P).MR H v;have jS:=au P;have Y:=nX;cases hg:fU gl (gk x table)with|none=>(rw[iM,hg]at d;simp only[hg]at l m;go_in;go_wp2_with fail;refine aD (by simp[results,results67,go_sem];rfl) rfl ?_;exact⟨⟨_,_,_,_,rfl,⟨⟨_,rfl⟩,⟨_,_,_,rfl⟩,.inl rfl⟩,.inl ⟨rfl,d.J⟩⟩,((ah _ _).alloc (ae _) _).alloc (by simp) _⟩)|some g=>rw[iM,hg]at d;simp only[hg]at l m;unfold oV.val at l m;have⟨u',t',hk,ao,Hz,a0,BR,b⟩:=C.J.gr _ (nh hg);have N:(8:Nat)<=maxLen:=(by unfold maxLen;omega);obtain⟨-,rfl⟩:=OV H v (ag ao N) (ag Hz N) hk;obtain rfl:=xm C.J.keys Z BR;have an:=b.shr;have⟨sa,mo,I⟩:=bz.slice an;have QL:=b.work;obtain⟨e,f,U,-⟩:=QL;rw[I,U]at l m;have ab:=au b;have TB:=au I;have ad:=au U;have ar:=jz e f;go_in;go_wp2_with fail;refine aD (by simp[results,results67,go_sem];rfl) rfl ?_;have E:∀o1 o2,δ w.heap.size w ((w.alloc o1).alloc o2):=λ_ _=>((ah _ _).alloc (ae _) _).alloc (by simp) _;have b:=ab.J;have Q:=b.shr;rw[TB.J]at Q;have K:=b.work;rw[ad.J]at K;exact⟨⟨_,_,_,_,rfl,⟨⟨_,rfl⟩,⟨_,_,_,rfl⟩,.inr ⟨_,_,rfl⟩⟩,.inr ⟨rfl,a,g.sh,_,g.a,g.lo,L.J,rfl,bz.below Q (E _ _) (ae _),K,b.kept.below (E _ _),λrow hr al G=>oU hr g.e b.fit.2.2.2.1 b.fit.2.2.2.2 G,b.fit.1,b.fit.2.1,b.fit.2.2.1,d.J⟩⟩,E _ _⟩
theorem JX{cols:List bu}(d:uc cols)(e:u.length<=5)(j:∀a∈u,a<cols.length):uc (u.map λa=>cols.getD a default):=by
 refine⟨by rw[aR];exact e,λl f=>?_⟩;obtain⟨a,i,rfl⟩:=cI.mp f;have b:=j a i;have c:cols.getD a default=cols[a]:=by simp[List.getD,List.getElem?_eq_getElem b]
 rw[c];exact d.2 _ (cF b)
theorem JY{cols:List bu}{i:List (List aB)}(m:fH cols i)(r:∀a∈u,a<cols.length)(l:List aB->dm):fH (u.map λa=>cols.getD a default) (kR l u i):=by intro x f;unfold kR at f;obtain⟨row,n,rfl⟩:=cI.mp f;have d:=m row (eW.mp n).1;unfold qR;refine⟨by rw[aR,aR],λs v k b c=>?_⟩;rw[aU]at b c;cases hj:u[s]? with|none=>rw[hj]at b;cases b|some a=>rw[hj]at b c;cases b;cases c;have e:=r a (aA hj);have j:a<row.length:=(by rw[d.1];exact e);exact d.2 a _ _ (by simp[List.getD,List.getElem?_eq_getElem j]) (by simp[List.getD,List.getElem?_eq_getElem e])
def lI(o:uS)(w w':ω)(p mt mg:Nat)(X:Nat->Prop)(tl:List (Lit×ij))(res:(Nat×Nat)×qV)(r:Ending):Prop:=
 r=τ (χ #[ι κ res.1.1,ι κ res.1.2])/\∃RJ BL,de RJ BL=res.2/\df o w' p mt mg (λb=>X b\/zg mt mg RJ b) RJ BL/\aY (λb=>b<w.heap.size/\¬zg mt mg tl b) w w'/\∀b,zg mt mg RJ b->zg mt mg tl b\/w.heap.size<=b
section
variable {o:uS} {w w':ω} {p mt mg:Nat} {X:Nat->Prop} {tl:List (Lit×ij)} {gl:List (Lit×oV)}
theorem RL(a:δ w.heap.size w w'):aY (λb=>b<w.heap.size/\¬s b) w w':=⟨a.os,a.tape,a.output,a.size,λb c=>a.block b c.1⟩
theorem df.same(c:df o w p mt mg X tl gl)(d:δ w.heap.size w w')(e:Nat×Nat){i:Ending}(l:i=τ (χ #[ι κ e.1,ι κ e.2])):lI o w w' p mt mg X tl (e,de tl gl) i:=by refine⟨l,tl,gl,rfl,c.stays ⟨d.size,λa j _=>d.block a j,λa b=>?_⟩ (λa f=>d.block a (c.sV a (c.sub a f))) (λa b=>.inl b) (λa b=>?_),RL d,λa f=>.inl f⟩;{rcases b with b|b;{exact .inl b};exact .inl (c.sub a b)};rcases b with b|b;{exact ai (c.sV a b) d.size};exact ai (c.sV a (c.sub a b)) d.size
end
theorem JZ(a:ByteArray):WideAt.IsKeyLit (tk a):=trivial
theorem anf(b a:ByteArray):WideAt.IsKeyLit (gk b a):=trivial
section
variable {B:Type} {T:List (Lit×B)} {k:Lit}
theorem aaj(a:fU T k=ν):qA T k=T:=by unfold fU at a;have c:T.find? (λp=>p.1.sameKey k)=ν:=(by cases h2:T.find? (λp=>p.1.sameKey k)with|none=>rfl|some b=>rw[h2]at a;cases a);unfold qA;rw[List.filter_eq_self];intro b d;have:=gW.mp c b d;simp at this;simp[this]
theorem aij{a:Lit×B}(b:a∈T)(c:a.1≠k):a∈qA T k:=by unfold qA;rw[eW];refine⟨b,?_⟩;cases hs:a.1.sameKey k with|false=>rfl|true=>exact absurd (iL hs) c
theorem aik{a:Lit×B}{b:B}(c:a∈qA T k):a∈qU T k b:=Ee.mpr (.inr c)
theorem XP{a:B}:(qU T k a).length=(qA T k).length+1:=RH _ _
end
section
variable {o:uS} {w w':ω} {p mt mg:Nat} {X:Nat->Prop} {tl:List (Lit×ij)} {gl:List (Lit×oV)}
theorem lS.nY{T:List (Lit×υ)}(d:lS w v e T){b:Array υ}{t:TypeId}:w.heap[e]?≠σ (ξ b t c):=λa=>by
 obtain⟨j,i,f,-⟩:=d;rw[f]at a
 cases a
theorem Eg.yF{t:ij}(c:Eg o w X t){T:List (Lit×υ)}(d:lS w v e T)(f:lF t.q t.sv W):W≠e:=λa=>by
 subst a;rcases f with a|a
 . subst a;exact d.nY c.fQ
 . rcases c.own.2 with⟨b,-⟩|⟨g,j,cur,b,-,i,-⟩
   . rw[b]at a;cases a
   . rw[b]at a;cases a;exact d.nY i
theorem df.less(a:df o w p mt mg X tl gl){f:List (Lit×oV)}(r:f.Sublist gl)(z:lS w' 198 mg (gQ oV.val f))(s:w.heap.size<=w'.heap.size)(l:∀b,b<w.heap.size->b≠mg->w'.heap[b]?=w.heap[b]?):df o w' p mt mg X tl f:=by
 have A:=a.sub mg (.inr (.inl rfl));have m:Gc w w' X X:=⟨s,λb i j=>l b i (λu=>by subst u;exact j A),λ_ e=>.inl e⟩;have n:∀c∈tl,∀b,lF c.2.q c.2.sv b->w'.heap[b]?=w.heap[b]?:=λc d b e=>l b (lF.inside (a.tab c d) e) ((a.tab c d).yF a.Ci e);have D:w'.heap[mt]?=w.heap[mt]?:=l mt a.Ch.lt a.ne;exact
  { fQ:=(m.block p (ay a.fQ) a.pX).trans a.fQ
    Ch:=a.Ch.kept D
    Ci:=z
    ne:=a.ne
    tab:=λc d=>(a.tab c d).stays m (n c d _ (.inl rfl)) (λk C=>n c d k (.inr C))
    apart:=a.apart
    gr:=λc d=>by
     obtain⟨F,t,i,j,v,E,x,y⟩:=a.gr c (r.subset d);exact⟨F,t,i,j,v,E,x,y.stays m⟩
    names:=a.names
    sub:=a.sub
    sV:=λb e=>ai (a.sV b e) s
    pX:=a.pX
    few:=⟨a.few.1,ag r.length_le a.few.2⟩ }
theorem df.lost(e:df o w p mt mg X tl gl){d:List (Lit×oV)}(u:d.Sublist gl)(r:lS w' 198 mg (gQ oV.val d))(c:aY (λb=>b<w.heap.size/\b≠mg) w w'){f:Nat×Nat}{j:Ending}(s:j=τ (χ #[ι κ f.1,ι κ f.2])):lI o w w' p mt mg X tl (f,de tl d) j:=by have i:=e.less u r c.size (λb m n=>c.block b ⟨m,n⟩);refine⟨s,tl,d,rfl,i.stays ⟨ae _,λ_ _ _=>rfl,λb a=>a.elim .inl (λa=>.inl (e.sub b a))⟩ (λ_ _=>rfl) (λ_ a=>.inl a) (λb a=>a.elim (i.sV b) (λa=>i.sV b (e.sub b a))),⟨c.os,c.tape,c.output,c.size,λb a=>c.block b ⟨a.1,λl=>a.2 (.inr (.inl l))⟩⟩,λb a=>.inl a⟩
theorem df.more(d:df o w p mt mg X tl gl){t:ByteArray}(R:t.size<=8)(P:fU tl (tk t)=ν)(hl:tl.length<4){q:Nat}{cv:υ}{cols:List bu}(K:lS w' 9 mt (gQ ij.val (qU tl (tk t) ⟨q,cv,ψ ν 0 0,[],cols,[]⟩)))(i:aY (λa=>a<w.heap.size/\a≠mt) w w')(Q:w.heap.size<=q)
 (y:w'.heap[q]?=σ (ξ #[cv,ψ ν 0 0,ι κ 0] 205 (0,0))) (F:eT w' cv cols) (M:kI (λa=>a<w.heap.size\/a=q) cv) (G:uc cols) (D:0<cols.length) {s:Ending} (n:s=τ (χ #[ι κ 0,ι κ 0])) :
 lI o w w' p mt mg X tl ((0,0),⟨qU (gQ ij.told tl) (tk t) (cols,[]),gQ oV.told gl⟩) s:=by
 have x:=aaj P;have L:=d.sub mt (.inl rfl);have A:∀a,zg mt mg (qU tl (tk t) ⟨q,cv,ψ ν 0 0,[],cols,[]⟩) a->X a\/a=q:=λa c=>by
  rcases c with b|b|⟨f,e,c⟩
  . exact .inl (d.sub a (.inl b))
  . exact .inl (d.sub a (.inr (.inl b)))
  . rcases Ay e with rfl|e
    . rcases c with b|b
      . exact .inr b
      . cases b
    . exact .inl (d.sub a (.inr (.inr ⟨f,oL e,c⟩)))
 have m:∀a,(X a\/zg mt mg (qU tl (tk t) ⟨q,cv,ψ ν 0 0,[],cols,[]⟩) a)->X a\/a=q:=λa c=>c.elim .inl (A a);have r:Gc w w' X (λa=>X a\/zg mt mg (qU tl (tk t) ⟨q,cv,ψ ν 0 0,[],cols,[]⟩) a):=⟨i.size,λa j l=>i.block a ⟨j,λb=>by subst b;exact l L⟩,λa c=>(m a c).imp id (λb=>by omega)⟩;have v:∀f∈tl,∀a,lF f.2.q f.2.sv a->w'.heap[a]?=w.heap[a]?:=λf e a c=>i.block a ⟨lF.inside (d.tab f e) c,(d.tab f e).yF d.Ch c⟩;have O:w'.heap[mg]?=w.heap[mg]?:=i.block mg ⟨d.Ci.lt,λb=>d.ne b.symm⟩;have E:=ay y;refine⟨n,qU tl (tk t) ⟨q,cv,ψ ν 0 0,[],cols,[]⟩,gl,?_,?_,⟨i.os,i.tape,i.output,i.size,λa c=>i.block a ⟨c.1,λb=>c.2 (.inl b)⟩⟩,λa c=>?_⟩;{unfold de;rw[<- Ax];rfl}
 .exact
   { fQ:=(r.block p (ay d.fQ) d.pX).trans d.fQ
     Ch:=K
     Ci:=d.Ci.kept O
     ne:=d.ne
     tab:=λf e=>by
      rcases Ay e with rfl|e
      . exact
         { fQ:=y
           own:=⟨rfl,.inl ⟨rfl,rfl⟩⟩
           off:=by simp[Value.ownBlock]
           KR:=F
           tC:=⟨rfl,λac u ab j=>by simp at j⟩
           On:=M.mono (λa c=>(m a c).imp (d.sV a) id)
           Lt:=λu U=>by simp at U
           chk:=oe.nil
           fit:=λs n=>by simp at n
           few:=by simp
           Fs:=G
           c0:=D }
      . have e:=oL e
        exact(d.tab f e).stays r (v f e _ (.inl rfl)) (λk N=>v f e k (.inr N))
     apart:=LJ (λaa a C k j l=>C k l j) d.apart (λZ V a j l=>by
      have z:=lF.inside (d.tab Z (oL V)) l;rcases j with b|b
      . simp at b;omega
      . cases b)
     gr:=λf e=>by
      obtain⟨u,W,j,l,z,Y,H,I⟩:=d.gr f e;exact⟨u,W,j,l,z,Y,aik (by rw[x];exact H),I.stays r⟩
     names:=λf e=>by
      rcases Ay e with rfl|e
      . exact⟨t,rfl,R⟩
      . exact d.names f (oL e)
     sub:=λa c=>.inr c
     sV:=λa c=>by
      rcases m a c with b|b
      . exact ai (d.sV a b) i.size
      . rw[b];exact E
     pX:=λc=>by
      rcases m p c with b|b
      . exact d.pX b
      . have:=ay d.fQ;omega
     few:=⟨by rw[XP,x];omega,d.few.2⟩ }
 rcases c with b|b|⟨f,e,c⟩;{exact .inl (.inl b)};{exact .inl (.inr (.inl b))};rcases Ay e with rfl|e;{rcases c with b|b;{exact .inr (by rw[b];exact Q)};cases b};exact .inl (.inr (.inr ⟨f,oL e,c⟩))
theorem df.again(c:df o w p mt mg X tl gl):df o w p mt mg (λb=>X b\/zg mt mg tl b) tl gl:=
 c.stays ⟨ae _,λ_ _ _=>rfl,λb a=>a.elim .inl (λa=>.inl (c.sub b a))⟩ (λ_ _=>rfl) (λ_ a=>.inl a) (λb a=>a.elim (c.sV b) (λa=>c.sV b (c.sub b a)))
end
theorem aen{B c:Type}(a:B->c)(T:List (Lit×B))(k:Lit)(b:B):yC (gQ a T) k (a b)=gQ a (yC T k b):=by unfold yC gQ;rw[gI,gI];apply fJ;intro d _;simp only[Function.comp];split<;>rfl
theorem Az{B:Type}{T:List (Lit×B)}{k:Lit}(j:WideAt.IsKeyLit k){d:B}{b:Lit×B}(i:b∈yC T k d):(b=(k,d)/\∃f,(k,f)∈T)\/(b∈T/\b.1≠k):=by obtain⟨l,e,rfl⟩:=cI.mp i;split;{rename_i c;have a:=iL c;exact .inl ⟨by rw[a],l.2,by rw[<- a];exact e⟩};rename_i c;exact .inr ⟨e,λa=>c (by rw[a];exact pF j)⟩
section
variable {o:uS} {w w1 w':ω} {p mt mg:Nat} {X X2:Nat->Prop} {tl:List (Lit×ij)} {gl:List (Lit×oV)}
theorem df.shrink(b:df o w p mt mg X tl gl)(d:∀a,X2 a->X a)(r:∀a,zg mt mg tl a->X2 a):df o w p mt mg X2 tl gl where
 fQ:=b.fQ
 Ch:=b.Ch
 Ci:=b.Ci
 ne:=b.ne
 tab:=λf e=>(b.tab f e).stays ⟨ae _,λ_ _ _=>rfl,λa c=>.inl (d a c)⟩ rfl (λ_ _=>rfl)
 apart:=b.apart
 gr:=λf e=>by
  obtain⟨u,t,i,j,l,s,m,n⟩:=b.gr f e;exact⟨u,t,i,j,l,s,m,n.stays ⟨ae _,λ_ _ _=>rfl,λa c=>.inl (d a c)⟩⟩
 names:=b.names
 sub:=r
 sV:=λa c=>b.sV a (d a c)
 pX:=λc=>b.pX (d p c)
 few:=b.few
theorem RM{f:Type}{e:f->f->Prop}(m:∀i j,e i j->e j i):∀{T:List f},T.Pairwise e->∀{b c:f},b∈T->c∈T->b≠c->e b c
 |[],_,b,c,a,_,_=>by simp at a
 |z::r,h,b,c,a,d,fy=>by
   obtain⟨l,n⟩:=bj.mp h;rw[bq]at a d;rcases a with rfl|a<;>rcases d with rfl|d
   . exact absurd rfl fy
   . exact l c d
   . exact m _ _ (l b a)
   . exact RM m n a d fy
theorem df.loaded(d:df o w p mt mg X tl gl){t:ByteArray}{l:ij}(z:(tk t,l)∈tl){s:List (List (List aB))}{new:List (List aB)}(e:pJ X w w' l.q 0 l.cols l.cv l.sv m i s f)(hN:f=s.flatten.length)(vN:oe o.seg s)(EU:s.flatten=l.Cs.flatten++new)(zb:fH l.cols new)(am:s.flatten.length<=64) :
 df o w' p mt mg (λa=>X a\/zg mt mg (yC tl (tk t) { l with sv:=m,vs:=i,Cs:=s }) a) (yC tl (tk t) { l with sv:=m,vs:=i,Cs:=s }) gl/\aY (λa=>a<w.heap.size/\¬zg mt mg tl a) w w'/\∀a,zg mt mg (yC tl (tk t) { l with sv:=m,vs:=i,Cs:=s }) a->zg mt mg tl a\/w.heap.size<=a:=by
 have I:=d.keys;have x:=d.tab _ z;have Y:∀a,lF l.q l.sv a->zg mt mg tl a:=λa c=>.inr (.inr ⟨_,z,c⟩);have Z:∀a,lF l.q m a->lF l.q l.sv a\/w.heap.size<=a:=λa c=>by
  rcases c with b|b
  . exact .inl (.inl b)
  . exact(e.row a b).imp .inr id
 have cx:∀a,zg mt mg (yC tl (tk t) { l with sv:=m,vs:=i,Cs:=s }) a->zg mt mg tl a\/w.heap.size<=a:=λa c=>by
  rcases c with b|b|⟨n,j,c⟩
  . exact .inl (.inl b)
  . exact .inl (.inr (.inl b))
  . rcases Az (JZ t) j with⟨rfl,-⟩|⟨j,-⟩
    . exact(Z a c).imp (Y a) id
    . exact .inl (.inr (.inr ⟨n,j,c⟩))
 have W:∀a,(X a\/zg mt mg (yC tl (tk t) { l with sv:=m,vs:=i,Cs:=s }) a)->X a\/w.heap.size<=a:=λa c=>c.elim .inl (λc=>(cx a c).imp (d.sub a) id);have Q:Gc w w' X (λa=>X a\/zg mt mg (yC tl (tk t) { l with sv:=m,vs:=i,Cs:=s }) a):=⟨e.keep.size,λa u r=>e.keep.block a ⟨u,λv=>r (d.sub a (Y a v))⟩,W⟩;have ab:∀n∈tl,n.1≠tk t->∀a,lF n.2.q n.2.sv a->w'.heap[a]?=w.heap[a]?:=λn j O a c=>e.keep.block a ⟨lF.inside (d.tab n j) c,λv=>RM (λE a FN k u r=>FN k r u) d.apart j z (λb=>O (by rw[b])) a c v⟩;have Y7:gQ ij.val (yC tl (tk t) { l with sv:=m,vs:=i,Cs:=s })=gQ ij.val tl:=(by unfold gQ yC;rw[gI];apply fJ;intro n j;simp only[Function.comp];split;{rename_i hs;have b:=iL hs;have C:n.2=l:=xm I (k:=tk t) (by rw[<- b];exact j) z;rw[<- C];rfl};rfl);have ac:∀a,lF l.q l.sv a->a≠mt/\a≠mg:=λa c=>⟨x.yF d.Ch c,x.yF d.Ci c⟩;refine⟨?_,⟨e.keep.os,e.keep.tape,e.keep.output,e.keep.size,λa c=>e.keep.block a ⟨c.1,λv=>c.2 (Y a v)⟩⟩,cx⟩;exact
  { fQ:=(Q.block p (ay d.fQ) d.pX).trans d.fQ
    Ch:=by rw[Y7];exact d.Ch.kept (e.keep.block mt ⟨d.Ch.lt,λv=>(ac mt v).1 rfl⟩)
    Ci:=d.Ci.kept (e.keep.block mg ⟨d.Ci.lt,λv=>(ac mg v).2 rfl⟩)
    ne:=d.ne
    tab:=λn j=>by
     rcases Az (JZ t) j with⟨rfl,-⟩|⟨j,O⟩
     . exact
        { fQ:=by have:=e.fQ;rw[hN]at this;exact this
          own:=e.own
          off:=e.off
          KR:=e.KR
          tC:=e.tC
          On:=bz.away x.KR x.On x.c0 W
          Lt:=λA L E N K M v=>by
           rcases v with b|b|b|⟨H,G,b⟩
           . exact e.zap A L E N K M b
           . exact e.zap A L E N K M (d.sub _ (.inl b))
           . exact e.zap A L E N K M (d.sub _ (.inr (.inl b)))
           . rcases Az (JZ t) G with⟨rfl,-⟩|⟨G,-⟩
             . exact e.Lt A L E N K M b
             . exact e.zap A L E N K M (d.sub _ (.inr (.inr ⟨H,G,b⟩)))
          chk:=vN
          fit:=by
           show fH l.cols s.flatten;rw[EU];intro ad F;rw[bn]at F;rcases F with F|F
           . exact x.fit ad F
           . exact zb ad F
          few:=am
          Fs:=x.Fs
          c0:=x.c0 }
     . exact(d.tab n j).stays Q (ab n j O _ (.inl rfl)) (λk hk=>ab n j O k (.inr hk))
    apart:=by
     unfold yC;refine ox.mpr (List.Pairwise.imp_of_mem (λ{n H} j G P=>?_) (d.apart.and I));intro a u r;have oO:∀R∈tl,lF R.2.q R.2.sv a->a<w.heap.size:=λR hz c=>lF.inside (d.tab R hz) c;by_cases U:n.1.sameKey (tk t)=true
     . have b:=iL U
       have D:¬H.1.sameKey (tk t)=true:=λD=>P.2 (by rw[b,iL D]);have C:n.2=l:=xm I (k:=tk t) (by rw[<- b];exact j) z;rw[aF U]at u;rw[aE D]at r;rcases Z a u with y|y
       . exact P.1 a (by rw[C];exact y) r
       . have:=oO H G r;omega
     . rw[aE U]at u
       by_cases D:H.1.sameKey (tk t)=true
       . have b:=iL D
         have C:H.2=l:=xm I (k:=tk t) (by rw[<- b];exact G) z;rw[aF D]at r;rcases Z a r with y|y
         . exact P.1 a u (by rw[C];exact y)
         . have:=oO n j u;omega
       . rw[aE D]at r
         exact P.1 a u r
    gr:=λn j=>by
     obtain⟨A,t',u,r,y,aa,V,h5⟩:=d.gr n j;by_cases b:(tk t').sameKey (tk t)=true
     . have e1:=iL b
       have C:aa=l:=xm I (k:=tk t) (by rw[<- e1];exact V) z;subst C;exact⟨A,t',u,r,y,{ aa with sv:=m,vs:=i,Cs:=s },cI.mpr ⟨_,V,by simp only[b,if_true]⟩,h5.stays Q⟩
     . exact⟨A,t',u,r,y,aa,cI.mpr ⟨_,V,by simp only[b];rfl⟩,h5.stays Q⟩
    names:=λn j=>by
     rcases Az (JZ t) j with⟨rfl,-⟩|⟨j,-⟩
     . have al:=d.names (tk t,l) z
       exact al
     . exact d.names n j
    sub:=λa c=>.inr c
    sV:=λa c=>by
     rcases c with c|c
     . exact ai (d.sV a c) e.keep.size
     . rcases c with b|b|⟨n,j,c⟩
       . exact ai (d.sV a (d.sub a (.inl b))) e.keep.size
       . exact ai (d.sV a (d.sub a (.inr (.inl b)))) e.keep.size
       . rcases Az (JZ t) j with⟨rfl,-⟩|⟨j,-⟩
         . rcases c with b|b
           . rw[b];exact ay e.fQ
           . exact(e.own.lt a b).2
         . exact ai (lF.inside (d.tab n j) c) e.keep.size
    pX:=λc=>by
     rcases W p c with b|b
     . exact d.pX b
     . have:=ay d.fQ;omega
    few:=⟨by unfold yC;rw[aR];exact d.few.1,d.few.2⟩ }
end
section
variable {o:uS} {w w':ω} {p mt mg:Nat} {X:Nat->Prop} {tl:List (Lit×ij)} {gl:List (Lit×oV)}
theorem df.granted(a:df o w p mt mg X tl gl){t:ByteArray}(I:x.size<=8)(G:t.size<=8){n:ij}(H:(tk t,n)∈tl){g:oV}(A:lS w' 198 mg (gQ oV.val (qU gl (gk x t) g)))(e:aY (λb=>b<w.heap.size/\b≠mg) w w')(O:(qA gl (gk x t)).length<8)(N:aag w' X n.cols g){s:Ending}(F:s=τ (χ #[ι κ 0,ι κ 0])) :
 lI o w w' p mt mg X tl ((0,0),⟨gQ ij.told tl,qU (gQ oV.told gl) (gk x t) g.told⟩) s:=by
 have C:=a.sub mg (.inr (.inl rfl));have m:Gc w w' X X:=⟨e.size,λb j l=>e.block b ⟨j,λi=>by subst i;exact l C⟩,λ_ c=>.inl c⟩;have r:∀d∈tl,∀b,lF d.2.q d.2.sv b->w'.heap[b]?=w.heap[b]?:=λd f b c=>e.block b ⟨lF.inside (a.tab d f) c,(a.tab d f).yF a.Ci c⟩;have E:w'.heap[mt]?=w.heap[mt]?:=e.block mt ⟨a.Ch.lt,a.ne⟩;have u:df o w' p mt mg X tl (qU gl (gk x t) g):=
  { fQ:=(m.block p (ay a.fQ) a.pX).trans a.fQ
    Ch:=a.Ch.kept E
    Ci:=A
    ne:=a.ne
    tab:=λd f=>(a.tab d f).stays m (r d f _ (.inl rfl)) (λk D=>r d f k (.inr D))
    apart:=a.apart
    gr:=λd f=>by
     rcases Ay f with rfl|f
     . exact⟨x,t,rfl,I,G,n,H,N⟩
     . obtain⟨M,K,j,l,v,L,y,z⟩:=a.gr d (oL f)
       exact⟨M,K,j,l,v,L,y,z.stays m⟩
    names:=a.names
    sub:=a.sub
    sV:=λb c=>ai (a.sV b c) e.size
    pX:=a.pX
    few:=⟨a.few.1,by rw[XP];omega⟩ }
 refine⟨F,tl,qU gl (gk x t) g,?_,u.again,⟨e.os,e.tape,e.output,e.size,λb c=>e.block b ⟨c.1,λi=>c.2 (.inr (.inl i))⟩⟩,λb c=>.inl c⟩;unfold de;rw[<- Ax]
theorem df.dropped(b:df o w p mt mg X tl gl){t:ByteArray}{j:List (Lit×oV)}(u:j.Sublist gl)(A:∀d∈j,∀y:ByteArray,y.size<=8->d.1≠gk y t)(I:lS w' 9 mt (gQ ij.val (qA tl (tk t))))(H:lS w' 198 mg (gQ oV.val j))(i:aY (λa=>a<w.heap.size/\a≠mt/\a≠mg) w w'){v:Ending}(N:v=τ (χ #[ι κ 0,ι κ 0])) :
 lI o w w' p mt mg X tl ((0,0),⟨qA (gQ ij.told tl) (tk t),gQ oV.told j⟩) v:=by
 have K:=b.sub mg (.inr (.inl rfl));have L:=b.sub mt (.inl rfl);have n:Gc w w' X X:=⟨i.size,λa m l=>i.block a ⟨m,λe=>by subst e;exact l L,λe=>by subst e;exact l K⟩,λ_ c=>.inl c⟩;have s:∀d∈tl,∀a,lF d.2.q d.2.sv a->w'.heap[a]?=w.heap[a]?:=λd f a c=>i.block a ⟨lF.inside (b.tab d f) c,(b.tab d f).yF b.Ch c,(b.tab d f).yF b.Ci c⟩;have r:∀a,zg mt mg (qA tl (tk t)) a->zg mt mg tl a:=λa c=>by
  rcases c with e|e|⟨d,f,c⟩
  . exact .inl e
  . exact .inr (.inl e)
  . exact .inr (.inr ⟨d,oL f,c⟩)
 have D:df o w' p mt mg X (qA tl (tk t)) j:=
  { fQ:=(n.block p (ay b.fQ) b.pX).trans b.fQ
    Ch:=I
    Ci:=H
    ne:=b.ne
    tab:=λd f=>(b.tab d (oL f)).stays n (s d (oL f) _ (.inl rfl)) (λk M=>s d (oL f) k (.inr M))
    apart:=b.apart.filter _
    gr:=λd f=>by
     obtain⟨z,x,m,l,E,O,F,G⟩:=b.gr d (u.subset f);have C:x≠t:=λe=>A d f z l (by rw[m,e]);exact⟨z,x,m,l,E,O,aij F (λe=>C (anb e)),G.stays n⟩
    names:=λd f=>b.names d (oL f)
    sub:=λa c=>b.sub a (r a c)
    sV:=λa c=>ai (b.sV a c) i.size
    pX:=b.pX
    few:=⟨ag (gD _ _) b.few.1,ag u.length_le b.few.2⟩ }
 refine⟨N,qA tl (tk t),j,?_,D.again,⟨i.os,i.tape,i.output,i.size,λa c=>i.block a ⟨c.1,λe=>c.2 (.inl e),λe=>c.2 (.inr (.inl e))⟩⟩,λa c=>.inl (r a c)⟩;unfold de;rw[xj]
end
section
variable {o:uS} {w w1 w2:ω} {p mt mg:Nat} {X:Nat->Prop} {tl:List (Lit×ij)} {gl:List (Lit×oV)}
theorem Eg.adds{a:ij}(b:Eg o w X a)(e:∀c,X c->c<w.heap.size)(d:∀c,lF a.q a.sv c->X c):pJ X w w a.q 0 a.cols a.cv a.sv a.sv a.vs a.Cs (a.Cs.flatten.length:Nat) where
 fQ:=b.fQ
 KR:=b.KR
 own:=b.own
 tC:=b.tC
 row:=λ_ f=>.inl f
 off:=b.off
 On:=b.On.mono d
 Lt:=λj i=>(b.Lt j i).mono d
 keep:=aY.refl _ _
 lq:=ay b.fQ
 zap:=b.Lt
 zin:=e
theorem df.wide(c:df o w p mt mg X tl gl)(d:δ w.heap.size w w1){k:Nat}(j:w.heap.size<=k)(l:k<w1.heap.size):df o w1 p mt mg (λa=>X a\/a=k) tl gl:=
 c.stays ⟨d.size,λa e _=>d.block a e,λa b=>b.imp id (λi=>by omega)⟩ (λa f=>d.block a (c.sV a (c.sub a f))) (λa b=>.inl b) (λa b=>by
  rcases b with b|b
  . exact ai (c.sV a b) d.size
  . omega)
theorem aer(x:df o w p mt mg X tl gl)(c:δ w.heap.size w w1){k:Nat}(L:w.heap.size<=k)(Q:k<w1.heap.size){t:ByteArray}{d:ij}(O:(tk t,d)∈tl){r:List (List (List aB))}{new:List (List aB)}(I:pJ (λa=>X a\/a=k) w1 w2 d.q 0 d.cols d.cv d.sv m i r f)(K:f=r.flatten.length)(R:oe o.seg r)(y:r.flatten=d.Cs.flatten++new)(U:fH d.cols new)(H:r.flatten.length<=64){W9:ω}(u:W9=(w2.setCell ⟨k,0,ν⟩ n).setCell ⟨k,1,ν⟩ b){C:Ending}(N:C=τ (χ #[ι κ (0:Nat),ι κ (0:Nat)])) :
 lI o w W9 p mt mg X tl ((0,0),⟨yC (gQ ij.told tl) (tk t) (d.cols,d.Cs.flatten++new),gQ oV.told gl⟩) C:=by
 obtain⟨z,s,A⟩:=(x.wide c L Q).loaded O I K R y U H;have P:W9.heap.size=w2.heap.size:=by rw[u];simp[World.setCell]
 have v:∀a,a≠k->W9.heap[a]?=w2.heap[a]?:=λa c=>by rw[u];exact(az _ _ _ _ c).trans (az _ _ _ _ c)
 have M:∀a,zg mt mg tl a->a≠k:=λa e=>by have:=x.sV a (x.sub a e);omega
 have E:∀a,zg mt mg (yC tl (tk t) { d with sv:=m,vs:=i,Cs:=r }) a->a≠k:=λa e=>by
  rcases A a e with l|l
  . exact M a l
  . omega
 have G:=z.stays (w':=W9) (X':=λa=>(X a\/a=k)\/zg mt mg (yC tl (tk t) { d with sv:=m,vs:=i,Cs:=r }) a) ⟨by omega,λa _ j=>v a (λl=>j (.inl (.inr l))),λa j=>.inl j⟩ (λa e=>v a (E a e)) (λa j=>j) (λa j=>by rw[P];exact z.sV a j);refine⟨N,_,gl,?_,G.shrink (λa j=>j.imp .inl id) (λa e=>.inr e),?_,λa e=>?_⟩;{unfold de;rw[<- aen];unfold ij.told;rw[<- y]};{refine⟨?_,?_,?_,?_,λa D=>?_⟩;{rw[u];exact s.os.trans c.os};{rw[u];exact s.tape.trans c.tape};{rw[u];exact s.output.trans c.output};{have:=s.size;have:=c.size;omega};have F:=D.1;have:=c.size;exact(v a (by omega)).trans ((s.block a ⟨by omega,D.2⟩).trans (c.block a F))};rcases A a e with l|l;{exact .inl l};have:=c.size;exact .inr (by omega)
end
theorem RQ:∀{d:List Bs} {cols:List bu},xl d cols=ν->d.length=cols.length->∀(a:Nat) (b:Bs) (c:bu),d[a]?=σ b->cols[a]?=σ c->b.null=true\/b.kind=(c.2:Int)
 |[],_,_,_,a,b,c,hv,_=>by simp at hv
 |v0::r,[],_,hl,_,_,_,_,_=>by simp at hl
 |v0::r,c0::l,h,hl,a,b,c,hv,hc=>by
   unfold xl at h;split at h
   . cases h
   . rename_i e
     cases a with
     |zero=>
       simp at hv hc;subst hv;subst hc
       cases FJ:v0.null with
       |true=>exact .inl rfl
       |false=>exact .inr (by simpa[FJ]using e)
     |succ a=>exact RQ h (by simpa using hl) a b c (by simpa using hv) (by simpa using hc)
theorem Gf{a:wj}{cols:List bu}(m:Be a)(b:iz a cols=ν):a.vals.length=cols.length/\zZ cols (JW a):=by unfold iz at b;split at b;{cases b};rename_i l;have d:a.vals.length=cols.length:=(by simpa using l);refine⟨d,?_⟩;have i:=RQ b d;refine⟨by unfold JW;simpa using d,λn r k c j=>?_⟩;unfold JW at c;rw[aU]at c;obtain⟨f,e,rfl⟩:=dU.mp c;exact Bh (m.2.1 f (aA e)) (i n f k e j)
def Left(o:uS)(w w':ω)(p mt mg:Nat)(X:Nat->Prop)(tl:List (Lit×ij))(st:qV):Prop:=
 ∃RJ BL,de RJ BL=st/\df o w' p mt mg (λb=>X b\/zg mt mg RJ b) RJ BL/\aY (λb=>b<w.heap.size/\¬zg mt mg tl b) w w'/\∀b,zg mt mg RJ b->zg mt mg tl b\/w.heap.size<=b
section
variable {o:uS} {w w1 w2 W9:ω} {p mt mg:Nat} {X:Nat->Prop} {tl:List (Lit×ij)} {gl:List (Lit×oV)} {st:qV}
theorem Left.same(a:df o w p mt mg X tl gl)(b:δ w.heap.size w w1):Left o w w1 p mt mg X tl (de tl gl):=(a.same b (0,0) rfl).2
theorem Left.ends(m:df o w p mt mg X tl gl)(d:δ w.heap.size w w1){k:Nat}(C:w.heap.size<=k)(D:k<w1.heap.size)(y:Left o w1 w2 p mt mg (λa=>X a\/a=k) tl st)(c:aY (λa=>a<w2.heap.size/\a≠k) w2 W9):Left o w W9 p mt mg X tl st:=by
 obtain⟨j,s,z,l,i,n⟩:=y;have A:∀a,zg mt mg tl a->a≠k:=λa b=>by have:=m.sV a (m.sub a b);omega
 have u:∀a,zg mt mg j a->a≠k:=λa b=>by
  rcases n a b with f|f
  . exact A a f
  . omega
 have x:=l.stays (w':=W9) (X':=λa=>(X a\/a=k)\/zg mt mg j a) ⟨c.size,λa d e=>c.block a ⟨d,λf=>e (.inl (.inr f))⟩,λa e=>.inl e⟩ (λa b=>c.block a ⟨l.sV a (.inr b),u a b⟩) (λa e=>e) (λa e=>ai (l.sV a e) c.size);refine⟨j,s,z,x.shrink (λa e=>e.imp .inl id) (λa b=>.inr b),⟨c.os.trans (i.os.trans d.os),c.tape.trans (i.tape.trans d.tape),c.output.trans (i.output.trans d.output),ag d.size (ag i.size c.size),λa r=>?_⟩,λa b=>?_⟩;{have v:=r.1;have:=d.size;have:=i.size;exact(c.block a ⟨by omega,by omega⟩).trans ((i.block a ⟨by omega,r.2⟩).trans (d.block a v))};rcases n a b with f|f;{exact .inl f};have:=d.size;exact .inr (by omega)
end
def aip(a:Vy):υ:=.tuple #[θ ⟨a.1.toArray⟩,χ #[ι κ (a.2.1:Nat),ι κ (a.2.2:Nat)]]
noncomputable def J2 (bud:Nat)(st:qV)(user:ByteArray)(c:Bt):Vy×qV:=
 match c with
 |.query ss=>(match ss with|s::r=>Bj bud st user s.pl s.table r|[]=>([],0,0),st)
 |c=>if jN user lX then(([],(yE st c).1.1,(yE st c).1.2),(yE st c).2)else(([],4,0),st)
theorem CZ{bud:Nat}{st:qV}{user:ByteArray}{a:Bt}(b:¬300<x.size)(c:fg x=.inl a):oE bud st user x=J2 bud st user a:=by unfold oE;rw[aE b,c];cases a<;>rfl
theorem Ej{st:qV}{q:Nat×Nat}(a:¬300<r.size)(b:fg r=.inr q):oE v st x r=(([],q.1,q.2),st):=by unfold oE;rw[aE a,b]
theorem qW{o:uS}{w:ω}{p mt mg:Nat}{X:Nat->Prop}{tl:List (Lit×ij)}{gl:List (Lit×oV)}(s:df o w p mt mg X tl gl){user:ByteArray}{res:(Nat×Nat)×qV}
 (W:∀w,(Instr.typeAssert (.iface d m) 74 113 true).run prog w=.ok (.tuple #[χ #[ι κ 0,θ ⟨#[]⟩,ι κ 0,ψ ν 0 0],.bool false]) w)
 (Y:∀w,(Instr.typeAssert (.iface d m) 74 116 true).run prog w=.ok (.tuple #[.iface d m,.bool true]) w)
 (C:∀w,Sem.run prog (method 566 d m "quarry/quarry.apply") w=.ok (v,m) w) (O:∀(A:Array υ) (w:ω),Sem.run prog (callFunc v A) w=.ok (.enter v A) w)
 (D:∀w1 z,δ w.heap.size w w1->df o w1 p mt mg z tl gl->Calls prog v #[m,π (σ ⟨p,0,ν⟩)] w1 λj w'=>lI o w1 w' p mt mg z tl res j) :
 Calls prog 29 #[π (σ ⟨p,0,ν⟩),θ user,.iface d m] w λj w'=>j=τ (aip (if jN user lX then([],res.1.1,res.1.2)else([],4,0)))/\Left o w w' p mt mg X tl (if jN user lX then res.2 else de tl gl):=by
 obtain⟨y,f⟩:=nm (w.alloc (iQ 0 0));have i:=pq f;have a:y.heap[w.heap.size]?=σ (iQ 0 0):=by rw[f];exact ak w _
 have E:=au (D y _ i (s.wide i (ae _) (ay a)));have e:=au s;have L:=au i;have G:=au f;have F:=au a;obtain⟨Q,R⟩:=br a;have z0:=fP a 0;have z1:=fP a 1;have x:=ay a;clear s i f a D;cases he:jN user lX with|false=>(have I:(user.toList==[97,100,109,105,110])=false:=(by rw[eD];exact he);have l:Hid (Left o w (w.alloc (iQ 4 0)) p mt mg X tl (de tl gl)):=au (Left.same e.J ((ah _ _).alloc (ae _) _));have K:=br (ak w (iQ 4 0));obtain⟨n,r⟩:=K;clear he;go_in;go_wp2_with fail;refine aD (by simp[results,results29,go_sem,n,r];rfl) rfl ?_;exact⟨rfl,l.J⟩)|true=>have I:(user.toList==[97,100,109,105,110])=true:=(by rw[eD];exact he);clear he;go_in;go_wp2_with fail;rw[<- G.J];refine E.J.mono ?_;rintro j w2 ⟨rfl,u⟩;have b:w2.heap[w.heap.size]?=σ (iQ 0 0):=(by obtain⟨P,N,-,-,c,-⟩:=u;refine(c.block _ ⟨x,λC=>?_⟩).trans F.J;have:=e.J.sV _ (e.J.sub _ C);omega);obtain⟨U,V⟩:=br b;have Z:=fP b 0;have y1:=fP b 1;have M:=ay b;have l:Hid (Left o w ((w2.setCell ⟨w.heap.size,0,ν⟩ (ι κ (res.1.1:Nat))).setCell ⟨w.heap.size,1,ν⟩ (ι κ (res.1.2:Nat))) p mt mg X tl res.2):=au (Left.ends e.J L.J (ae _) x u (((aY.refl _ _).setCell (λc=>c.2 rfl) _).setCell (λc=>c.2 rfl) _));have H:=au b;clear u b;go_wp2_with fail;obtain⟨n,r⟩:=br (aQ _ _ 1 _ _ (ι κ (res.1.2:Nat)) (aQ _ _ 0 _ _ (ι κ (res.1.1:Nat)) H.J));refine aD (by simp[results,results29,go_sem,n,r];rfl) rfl ?_;exact⟨rfl,l.J⟩
theorem Gg(w:ω)(a b c:Obj):((w.alloc a).alloc b |>.alloc c).heap[w.heap.size]?=σ a/\((w.alloc a).alloc b |>.alloc c).heap[w.heap.size+1]?=σ b/\((w.alloc a).alloc b |>.alloc c).heap[w.heap.size+2]?=σ c:=by
 have f:(w.alloc a).heap.size=w.heap.size+1:=by simp
 have i:((w.alloc a).alloc b).heap.size=w.heap.size+2:=by simp
 have d:=ak (w.alloc a) b;have e:=ak ((w.alloc a).alloc b) c;rw[f]at d;rw[i]at e;exact⟨(fu _ c (by omega)).trans ((fu _ b (by omega)).trans (ak w a)),(fu _ c (by omega)).trans d,e⟩
theorem O1{w w1:ω}{t:TypeId}(c:δ w.heap.size w w1)(d:w.heap.size<=v)(e:w1.heap[v]?=σ (ξ #[m,n] t (0,0)))(a b:υ)(o:Obj):((((w1.setCell (Ad v 0) a).setCell (Ad v 1) b).alloc o).drew.cell? (Ad v 0)=σ a/\(((w1.setCell (Ad v 0) a).setCell (Ad v 1) b).alloc o).drew.cell? (Ad v 1)=σ b)/\δ w.heap.size w (((w1.setCell (Ad v 0) a).setCell (Ad v 1) b).alloc o).drew:=by refine⟨apt e o,aH (((c.setCell d _).setCell d _).alloc ?_ _)⟩;simpa[World.setCell]using c.size
theorem ik{w w1:ω}{t:TypeId}(e:δ w.heap.size w w1)(c:w.heap.size<=v)(d:w1.heap[v]?=σ (ξ #[m,n] t (0,0)))(a b:υ):(((w1.setCell (Ad v 0) a).setCell (Ad v 1) b).cell? (Ad v 0)=σ a/\((w1.setCell (Ad v 0) a).setCell (Ad v 1) b).cell? (Ad v 1)=σ b)/\δ w.heap.size w ((w1.setCell (Ad v 0) a).setCell (Ad v 1) b):=
 ⟨br (t:=t) (aQ _ _ 1 _ _ _ (aQ _ _ 0 _ _ _ d)),(e.setCell c _).setCell c _⟩
theorem VH{o:uS}{w:ω}{p mt mg:Nat}{X:Nat->Prop}{tl:List (Lit×ij)}{gl:List (Lit×oV)}(j:df o w p mt mg X tl gl){a t:Nm}(hu:nT a)(ht:nT t) :
 Calls prog 276 #[χ #[θ a.1,ι κ a.2,θ t.1,ι κ t.2],π (σ ⟨p,0,ν⟩)] w λan w'=>lI o w w' p mt mg X tl (yB (de tl gl) a t) an:=by
 have Z:(8:Nat)<=maxLen:=by unfold maxLen;omega
 have L:=ag hu.1 Z;have F:=ag ht.1 Z;have⟨s0,s1,s2,s3,s4,s5,s6,s7⟩:=fq j.fQ;have hp:=ay j.fQ;have⟨b,n⟩:=nm (((w.alloc (ξ #[θ a.1,ι κ a.2,θ t.1,ι κ t.2] 136)).alloc (iQ 0 0)).alloc (obX a.1 t.1));have D:=auB n;have P:b.heap.size=w.heap.size+3:=by rw[n];simp
 have x:b.heap[w.heap.size]?=σ (ξ #[θ a.1,ι κ a.2,θ t.1,ι κ t.2] 136 (0,0))/\b.heap[w.heap.size+1]?=σ (iQ 0 0)/\b.heap[w.heap.size+2]?=σ (obX a.1 t.1):=by rw[n];exact Gg w _ _ _
 have R:=au (λwr (c:δ b.heap.size b wr)=>(show df o wr p mt mg X tl gl/\δ w.heap.size w wr/\wr.heap[w.heap.size]?=σ (ξ #[θ a.1,ι κ a.2,θ t.1,ι κ t.2] 136 (0,0))/\wr.heap[w.heap.size+1]?=σ (iQ 0 0)/\wr.heap[w.heap.size+1+1]?=σ (obX a.1 t.1)from by
  have h1:=D.trans (c.mono (by omega));exact⟨j.below h1,h1,(c.block _ (by omega)).trans x.1,(c.block _ (by omega)).trans x.2.1,(c.block _ (by omega)).trans x.2.2⟩))
 have V:=au n;obtain⟨m,-,A,f,C⟩:=R.J b (ah _ _);have⟨c0,c1,c2,c3⟩:=eQ A;have⟨k0,k1⟩:=br C;have⟨f0,f1⟩:=br f;have z0:=fP f 0;have z1:=fP f 1;have jS:=au f;have po:=au D;have⟨e0,e1,e2,e3,e4,e5,e6,e7⟩:=fq m.fQ;have aq:=ay m.fQ;have IK:=ay A;have e:=ay f;have ap:=ay C;have s:=(m.below (aH (ah _ _))).MR L F;have u:=(m.below (aH ((ah _ _).alloc (ae _) (obR ν 0 0 .nilFunc)))).MR L F;have aC:=nX;have U:=au j;cases hg:fU gl (gk a.1 t.1)with
 |none=>simp only[hg]at s u;have Ak:Hid (yB (de tl gl) a t=((5,a.2),de tl gl)):=au (by unfold yB de;simp only;rw[iM,hg];rfl);clear j n D x m A f C hg P;go_in;go_wp2_with fail;rw[<- V.J];go_region;all_goals (try go_wp2_with fail);have⟨⟨H,I⟩,d2⟩:=O1 po.J (bF _) jS.J (ι κ 5) (ι κ a.2) (obR ν 0 0 .nilFunc);refine aD (by simp[results,results276,go_sem,H,I];rfl) rfl ?_;rw[Ak.J];exact U.J.same d2 (5,a.2) rfl
 |some g=>
  simp only[hg]at s u;unfold oV.val at s u;have⟨u',t',v,av,ar,a0,BR,O⟩:=j.gr _ (nh hg);have⟨sa,mo,Q⟩:=bz.slice O.shr;have QL:=O.work;obtain⟨M,N,ab,-⟩:=QL;rw[Q,ab]at s u;have ax:=jz M N;have HG:Hid (yB (de tl gl) a t=((0,0),de tl (qA gl (gk a.1 t.1)))):=au (by
   unfold yB de;simp only;rw[iM,hg,xj];rfl)
  have W:=au (aH ((ah b.heap.size b).alloc (ae _) (obR sa g.sh.length mo (.func (.func M) #[] N))));clear j n D x m A f C hg P O v BR Q ab;go_in;go_wp2_with fail;rw[<- V.J];go_region;all_goals (try go_wp2_with fail);have⟨Y,rW⟩:=nm ((b.alloc (obR sa g.sh.length mo (.func (.func M) #[] N))).drew);rw[<- rW]at W ⊢;obtain⟨E,aa,-,y,np⟩:=R.J Y W.J;have z:=E.below (aH (ah _ _));have⟨w5,VB,K,d⟩:=z.Ci.del Tryz.ud underlying71 (JU L F) 0;rw[xj]at K;have G:w.heap.size+1≠mg:=λi=>z.Ci.nY (by rw[<- i];exact y);have r:=(d.block (w.heap.size+1) (ay y) (λi=>G (bk i))).trans y;have⟨g0,g1⟩:=br r;have y0:=fP r 0;have y1:=fP r 1;have⟨m0,m1,m2,m3,m4,m5,m6,m7⟩:=fq E.fQ;have⟨n0,n1⟩:=br np;have HM:=au K;have al:=au G;have ao:=au z.Ci.lt;have ac:=au r;have Uy:=au d;have ad:=au aa;clear G rW E z K r y np d aa e0 e1 e2 e3 e4 e5 e6 e7 c0 c1 c2 c3 k0 k1 f0 f1 z0 z1 s u;go_region;all_goals (try go_wp2_with fail);have⟨H,I⟩:=br (aQ _ _ 1 _ _ (ι κ 0) (aQ _ _ 0 _ _ (ι κ 0) ac.J));refine aD (by simp[results,results276,go_sem,H,I];rfl) rfl ?_;rw[HG.J];have e:=ad.J;have d:=Uy.J;have am:aY (λl=>l<w.heap.size/\l≠mg) w w5:=aY.trans (b:=Y.drew) ⟨e.os,e.tape,e.output,e.size,λl c=>e.block l c.1⟩ ⟨d.os,d.tape,d.output,d.size,λl c=>d.block l (ai c.1 e.size) (λi=>c.2 (bk i))⟩;have fy:mg≠w.heap.size+1:=λi=>al.J i.symm;exact U.J.lost (f:=(0,0)) List.filter_sublist (HM.J.kept ((az _ _ _ _ fy).trans (az _ _ _ _ fy))) ((am.setCell (λv=>by have:=v.1;simp at this;omega) _).setCell (λv=>by have:=v.1;simp at this;omega) _) rfl
theorem VI{o:uS}{w:ω}{p mt mg:Nat}{X:Nat->Prop}{tl:List (Lit×ij)}{gl:List (Lit×oV)}(h:df o w p mt mg X tl gl){t:Nm}(ht:nT t){cols:List (Nm×Nat)}(GJ:cols≠[])(Pv:∀a∈cols,nT a.1/\a.2<=2)(Bz:cols.length<=302)(N:bz w 3 m cols.length (XQ cols)) :
 Calls prog 278 #[χ #[θ t.1,ι κ t.2,m],π (σ (Ad p 0))] w λb1 w'=>lI o w w' p mt mg X tl (sC (de tl gl) t cols) b1:=by
 have Hz:t.1.size<=maxLen:=by have:=ht.1;unfold maxLen;omega
 obtain⟨P,H,rfl⟩:=bz.slice N;have⟨f,M⟩:=nm ((w.alloc (abR t.1 t.2 P cols.length H)).alloc (iQ 0 0));have jw:=xI M;have Ae:f.heap.size=w.heap.size+2:=by rw[M];simp
 have kN:f.heap[w.heap.size]?=σ (abR t.1 t.2 P cols.length H)/\f.heap[w.heap.size+1]?=σ (iQ 0 0):=(by rw[M];have V:=ak (w.alloc (abR t.1 t.2 P cols.length H)) (iQ 0 0);rw[show(w.alloc (abR t.1 t.2 P cols.length H)).heap.size=w.heap.size+1 by simp]at V;exact⟨(fu _ _ (by simp)).trans (ak w _),V⟩)
 have HB:=au (λwr (i:δ f.heap.size f wr)=>(show df o wr p mt mg X tl gl/\δ w.heap.size w wr/\wr.heap[w.heap.size]?=σ (abR t.1 t.2 P cols.length H)/\wr.heap[w.heap.size+1]?=σ (iQ 0 0)/\bz wr 3 (ψ P cols.length H) cols.length (XQ cols)from by
  have I:=jw.trans (i.mono (by omega));exact⟨h.below I,I,(i.block _ (by omega)).trans kN.1,(i.block _ (by omega)).trans kN.2,bz.below N I (ae _)⟩))
 have HW:=au M;obtain⟨K,-,y,e,-⟩:=HB.J f (ah _ _);have⟨c0,c1,c2⟩:=bf y;have⟨f0,f1⟩:=br e;have z0:=fP e 0;have z1:=fP e 1;have⟨e0,e1,V,e3,e4,e5,e6,e7⟩:=fq K.fQ;have b5:=ay K.fQ;have IK:=ay y;have Aa:=ay e;have Z:=K.find Hz;have qI:=(K.below (aH (ah _ _))).find Hz;have F:=au h;have jS:=au e;have po:=au jw;cases hg:fU tl (tk t.1)with
 |some tc=>simp only[hg]at Z qI;unfold ij.val at Z qI;have n:Hid (sC (de tl gl) t cols=((6,t.2),de tl gl)):=au (by unfold sC de;simp only;rw[iM,hg];rfl);clear h M jw kN K y e hg Ae N;go_in;go_wp2_with fail;rw[<- HW.J];go_region;all_goals (try go_wp2_with fail);have⟨⟨z,A⟩,E⟩:=ik (w1:=f) po.J (bF _) jS.J (ι κ 6) (ι κ t.2);refine aD (by simp[results,results278,go_sem,z,A];rfl) rfl ?_;rw[n.J];exact F.J.same (aH E) (6,t.2) rfl
 |none=>
  simp only[hg]at Z qI;clear h M jw kN K y e Ae N;go_in;go_wp2_with fail;rw[<- HW.J];have ar:Hid (sC (de tl gl) t cols=match Cj cols []with|.inl c=>((6,c),de tl gl)|.inr aq=>if 4<=tl.length\/5<aq.length then((8,0),de tl gl)else((0,0),⟨qU (gQ ij.told tl) (tk t.1) (aq,[]),gQ oV.told gl⟩)):=au (by
   unfold sC de;simp only;rw[iM,hg]
   cases Cj cols []with
   |inl c=>rfl
   |inr aq=>simp[gQ])
  have HG:=au hg;have a4:=au Pv;have⟨i0,zr,lU,lV,lk⟩:=jc Tryz.Jo;clear hg Pv;go_region;all_goals
   (try go_wp2_with fail);have a5:Hid (δ f.heap.size f f.drew):=au (aH (ah _ _));clear Z qI c0 c1 c2 f0 f1 z0 z1 e0 e1 V e3 e4 e5 e6 e7;go_loopw[5,24] (λm a wr=>∃(d:Nat) (b:List bu),d<=cols.length/\Hid (b.length=d)/\a=ι κ d/\Hid (Cj cols []=Cj (cols.drop d) b)/\Hid (∀D∈b,Nm8 D.1/\D.2<=2)/\Hid (wr.ownsRow f.heap.size 202 2 m b.length (b.flatMap nz))/\Hid (δ f.heap.size f wr)) (λ_ a _=>cols.length - (intOf a).toNat);(case atStart=>exact⟨0,[],aI _,au rfl,rfl,au rfl,au (λD l=>by simp at l),au ⟨rfl,.inl ⟨rfl,rfl⟩⟩,a5⟩);case round=>
    obtain⟨d,b,hi,R,rfl,ZS,av,an,sO⟩:=hrel;have⟨L,mR,y,e,Ls⟩:=HB.J wr sO.J;by_cases cQ:d<cols.length
    .have jY:(d:Int)<cols.length:=(by omega);obtain⟨a,O⟩:∃a,cols[d]?=σ a:=⟨_,af cQ⟩;have YW:=au (a4.J a (aA O));have Ut:cols.drop d=a::cols.drop (d+1):=(by rw[cE cQ];congr 1;exact(aj.mp O).2);have RV:Hid (Cj cols []=if 0<=zl b a.1.1 then .inl a.1.2 else Cj (cols.drop (d+1)) (b++[(a.1.1,a.2)])):=au (by rw[ZS.J,Ut];rfl);obtain⟨vg,vo,Eb,he,-,b7,l⟩:=bz.at Ls (by omega);cases he;have x0:wr.cell? (Ad vg (vo+d*3))=σ (θ a.1.1):=l (d*3) _ (ek aam 3 (λ_=>rfl) cols O (j:=0) (by decide));have x1:wr.cell? (Ad vg (vo+d*3+1))=σ (ι κ a.1.2):=l (d*3+1) _ (ek aam 3 (λ_=>rfl) cols O (j:=1) (by decide));have x2:wr.cell? (Ad vg (vo+d*3+2))=σ (ι κ a.2):=l (d*3+2) _ (ek aam 3 (λ_=>rfl) cols O (j:=2) (by decide));have⟨W1,rC⟩:=nm (wr.alloc (ξ #[θ a.1.1,ι κ a.1.2,ι κ a.2] 168));have lQ:=pq rC;have oz:W1.heap[wr.heap.size]?=σ (ξ #[θ a.1.1,ι κ a.1.2,ι κ a.2] 168 (0,0)):=(by rw[rC];exact ak wr _);have u:=an.J;obtain⟨v,r,rfl,-,-⟩:=cu u;have ao:=ct u lQ;have a9:=au (Dp b (ψ v b.length r) a.1.1 W1 (bz.fM ao) (by rw[R.J];omega));have WO:=au ao;have sJ:=au oz;have RW:=au (sO.J.trans (lQ.mono sO.J.size));have FW:=au rC;clear L mR y e Ls l rC lQ oz u ao O Ut;go_wp2_with fail;rw[<- FW.J];refine a9.J.mono ?_;rintro j w2 ⟨rfl,e⟩;have np:=(e.block _ (ay sJ.J)).trans sJ.J;have⟨k0,k1,k2⟩:=bf np;have sI:=RW.J.trans (e.mono RW.J.size);have bc:=sI.size;have Dr:=au (ct WO.J e);have E6:=ay np;obtain⟨BI,Gh,-,U,-⟩:=HB.J w2 sI;have⟨f0,f1⟩:=br U;have z0:=fP U 0;have z1:=fP U 1;have Ey:=au U;have ba:=au Gh;have J4:=au sI;clear e np sI BI Gh U x0 x1 x2;by_cases ad:0<=zl b a.1.1;{have bd:(zl b a.1.1>=0):=ad;have n:Hid (sC (de tl gl) t cols=((6,a.1.2),de tl gl)):=au (by rw[ar.J,RV.J,aF ad]);go_wp2_with fail;have⟨⟨z,A⟩,E⟩:=ik ba.J (bF _) Ey.J (ι κ 6) (ι κ a.1.2);refine aD (by simp[results,results278,go_sem,z,A];rfl) rfl ?_;rw[n.J];exact F.J.same E (6,a.1.2) rfl}
     have bd:¬(zl b a.1.1>=0):=ad
     have ax:Hid (Cj cols []=Cj (cols.drop (d+1)) (b++[(a.1.1,a.2)])):=au (by rw[RV.J,aE ad]);have Cy:=au (Dr.J.alloc (obI a.1.1 a.2));have uQ:=au (World.news_of_block (w:=w2.alloc (obI a.1.1 a.2)) (B:=w2.heap.size) (ak w2 (obI a.1.1 a.2)));have Ur:Hid (b.length+1<=maxLen):=au (by rw[R.J];unfold maxLen;omega);have Re:Hid ((b.length+1)*24<=140737488355328):=au (by rw[R.J];omega);have Ly:Hid (f.heap.size<=(w2.alloc (obI a.1.1 a.2)).heap.size):=au (by simp;omega);go_wp2_with(at_builtin;refine ou _ rfl _ _ 149 rfl f.heap.size 202 i0 _ 2 24 underlying149 zr lU lV lk rfl (by decide) (ψ v b.length r) b.length (b.flatMap nz) rfl Cy.J (Ad w2.heap.size 0) 1 1 (nz (a.1.1,a.2)) rfl rfl uQ.J (Ou _) Ur.J Re.J Ly.J ?_);intro v' w3 nR jT _;have vu:Hid (w3.ownsRow f.heap.size 202 2 v' (b++[(a.1.1,a.2)]).length ((b++[(a.1.1,a.2)]).flatMap nz)):=au (by rw[aw,fI,rj];exact nR);have oI:Hid (δ f.heap.size f w3):=au (((J4.J.alloc bc _)).grown jT Ly.J (λk W=>(Cy.J.lt k W).1));have aC:Hid ((b++[(a.1.1,a.2)]).length=d+1):=au (by rw[aw,R.J];rfl);have a0:Hid (∀D∈b++[(a.1.1,a.2)],Nm8 D.1/\D.2<=2):=au (λD l=>by
      rw[bn,a6]at l;rcases l with l|rfl
      . exact av.J D l
      . exact⟨⟨YW.J.1.1,YW.J.1.2.2⟩,YW.J.2⟩)
     clear nR jT;go_wp2_with fail
     first
     |exact⟨⟨d+1,_,by omega,aC,by go_num,ax,a0,vu,oI⟩,by simp[intOf];omega⟩
     | (go_roundw
        case rel=>exact⟨d+1,_,by omega,aC,by go_num,ax,a0,vu,oI⟩
        case measure=>simp[intOf];omega)
    obtain rfl:d=cols.length:=(by omega);have n:Hid (sC (de tl gl) t cols=if 4<=tl.length\/5<b.length then((8,0),de tl gl)else((0,0),⟨qU (gQ ij.told tl) (tk t.1) (b,[]),gQ oV.told gl⟩)):=au (by rw[ar.J,ZS.J,gB];rfl);have Mn:(gQ ij.val tl).length=tl.length:=(by unfold gQ;rw[aR]);have ap:=λty=>L.Ch.len underlying70 ty;rw[Mn]at ap;have b2:=ap 3;have⟨e0,e1,V,e3,e4,e5,e6,e7⟩:=fq L.fQ;have⟨c0,c1,c2⟩:=bf y;have⟨f0,f1⟩:=br e;have z0:=fP e 0;have z1:=fP e 1;have u:=an.J;obtain⟨v,r,bo,b4,-⟩:=cu u;have Vc:=au L;have G:=au e;have am:=au mR;have Va:=ay L.fQ;have b6:=ay y;have b3:=ay e;subst bo;clear L mR y e Ls ap u;by_cases hA:4<=tl.length;{have bg:((tl.length:Nat):Int)>=4:=(by omega);rw[aF (.inl hA)]at n;go_wp2_with fail;have⟨⟨z,A⟩,E⟩:=ik am.J (bF _) G.J (ι κ 8) (ι κ 0);refine aD (by simp[results,results278,go_sem,z,A];rfl) rfl ?_;rw[n.J];exact F.J.same E (8,0) rfl}
    have bg:¬((tl.length:Nat):Int)>=4:=(by omega);by_cases hC:5<b.length;{have bi:((b.length:Nat):Int)>5:=(by omega);rw[aF (.inr hC)]at n;go_wp2_with fail;have⟨⟨z,A⟩,E⟩:=ik am.J (bF _) G.J (ι κ 8) (ι κ 0);refine aD (by simp[results,results278,go_sem,z,A];rfl) rfl ?_;rw[n.J];exact F.J.same E (8,0) rfl}
    have bi:¬((b.length:Nat):Int)>5:=(by omega);rw[aE (by omega)]at n;have⟨WU,ab⟩:=nm ((wr.alloc (ξ #[ψ v b.length r,ψ ν 0 0,ι κ 0] 205)).drew);have s:δ wr.heap.size wr WU:=(by rw[ab];exact aH ((ah _ _).alloc (ae _) _));have al:WU.heap[wr.heap.size]?=σ (ξ #[ψ v b.length r,ψ ν 0 0,ι κ 0] 205 (0,0)):=(by rw[ab];exact ak wr _);have aa:=Vc.J.below s;have⟨Y,bx,hM,x⟩:=aa.Ch.put Tryz.OU underlying70 (Vw Hz) (by rw[Mn];omega) (π (σ (Ad wr.heap.size 0)));have ac:=(s.block _ (ay G.J)).trans G.J;have Y2:w.heap.size+1≠mt:=λj=>aa.Ch.nY (by rw[<- j];exact ac);have a2:wr.heap.size≠mt:=λj=>aa.Ch.nY (by rw[<- j];exact al);have Q:=(x.block (w.heap.size+1) (ay ac) (λj=>Y2 (bk j))).trans ac;have a3:=(x.block wr.heap.size (ay al) (λj=>a2 (bk j))).trans al;have⟨g0,g1⟩:=br Q;have y0:=fP Q 0;have y1:=fP Q 1;have be:0<b.length:=(by rw[R.J];exact jL.mpr GJ);have u:=an.J;have C:=am.J;have US:kI (λc=>c<w.heap.size\/c=wr.heap.size\/c=mt\/c=w.heap.size+1) (ψ v b.length r):=λbb b8 a N hm=>by
     have I:=u.lt bb.block (by rw[N];rfl);have h2:=Vc.J.Ch.lt;have h3:=F.J.Ch.lt;have h4:=ay G.J;have h5:=po.J.size;rcases hm with j|j|j|j
     . omega
     . omega
     . omega
     . have:=ay jS.J;omega
    have uT:Hid (∀W9,W9=(Y.setCell (Ad (w.heap.size+1) 0) (ι κ 0)).setCell (Ad (w.heap.size+1) 1) (ι κ 0)->lI o w W9 p mt mg X tl (sC (de tl gl) t cols) (τ (χ #[ι κ 0,ι κ 0]))):=au (by
     intro W9 e9;have b0:W9.heap.size=Y.heap.size:=by rw[e9];simp[World.setCell]
     have VF:∀c,c≠w.heap.size+1->W9.heap[c]?=Y.heap[c]?:=λc i=>by rw[e9];exact(az _ _ _ _ i).trans (az _ _ _ _ i)
     have bl:aY (λc=>c<w.heap.size/\c≠mt) w Y:=aY.trans (b:=WU) ⟨s.os.trans C.os,s.tape.trans C.tape,s.output.trans C.output,ag C.size s.size,λc i=>(s.block c (ai i.1 C.size)).trans (C.block c i.1)⟩ ⟨x.os,x.tape,x.output,x.size,λc i=>x.block c (ai i.1 (ag C.size s.size)) (λj=>i.2 (bk j))⟩;have bm:aY (λc=>c<w.heap.size/\c≠mt) w W9:=by rw[e9];exact(bl.setCell (λW=>by have:=W.1;simp at this;omega) _).setCell (λW=>by have:=W.1;simp at this;omega) _
     have bt:wr.heap.size≠w.heap.size+1:=by have:=ay G.J;omega
     rw[n.J];refine F.J.more ht.1 HG.J (by omega) (q:=wr.heap.size) (cv:=ψ v b.length r) (cols:=b) ?_ bm C.size ((VF _ bt).trans a3) ?_ (US.mono (λc i=>i.imp id .inl)) ⟨by omega,av.J⟩ be rfl
     . have a1:=hM.kept (VF mt Y2.symm)
       rw[show(Value.pointer (σ (Ad wr.heap.size 0)))=ij.val ⟨wr.heap.size,ψ v b.length r,ψ ν 0 0,[],b,[]⟩from rfl,Ax]at a1;exact a1
     . have Zc:eT wr (ψ v b.length r) b:=bz.fM u
       have bv:=Zc.below s (ae _);have bw:eT Y (ψ v b.length r) b:=bz.moves (M:=λc=>c=mt) bv (US.mono (λc i=>.inr (.inr (.inl i)))) x.size (λc I h2=>x.block c I (λj=>h2 (bk j)));exact bz.moves (M:=λc=>c=w.heap.size+1) bw (US.mono (λc i=>.inr (.inr (.inr i)))) (by rw[b0];exact ae _) (λc _ h2=>VF c h2))
    have a8:=au Q;rw[ab]at bx;clear ab s al aa hM x ac Y2 a2 Q a3 u C US;go_wp2_with fail;go_region;all_goals (try go_wp2_with fail);have⟨z,A⟩:=br (aQ _ _ 1 _ _ (ι κ 0) (aQ _ _ 0 _ _ (ι κ 0) a8.J));refine aD (by simp[results,results278,go_sem,z,A];rfl) rfl ?_;exact uT.J _ rfl
theorem VK(f a i c:Int)(e push:Bool)(w:ω):Calls prog 25 #[χ #[ι κ f,ι κ a,ι κ i,.bool e,.bool push,ι κ c]] w λd w'=>d=τ (χ #[ι κ (min (max f 1) 16),ι κ (if 0<=a/\a<=3 then a else 0),ι κ (min (max i 1) 16),.bool e,.bool push,ι κ (min (max c 0) 4096)])/\δ w.heap.size w w':=by go_in;go_wp2_with fail;refine(S.wB a _).mono ?_;rintro d w1 ⟨rfl,rfl⟩;by_cases b:0<=a/\a<=3;{rw[bU b];go_wp2_with fail;refine aD (by simp[results,results25,go_sem];rfl) rfl ?_;exact⟨by first|rfl|simp[b],((ah _ _).alloc (ae _) _).alloc (by simp) _⟩};rw[aN b];go_wp2_with fail;refine aD (by simp[results,results25,go_sem];rfl) rfl ?_;exact⟨by first|rfl|simp[b],((ah _ _).alloc (ae _) _).alloc (by simp) _⟩
def AA(seg pk wd bud:Int)(prune push:Bool):uS:=
 ⟨(min (max seg 1) 16).toNat,(if 0<=pk/\pk<=3 then pk else 0).toNat,(min (max wd 1) 16).toNat,prune,push,(min (max bud 0) 4096).toNat,by omega,by omega,by split<;>omega,by omega,by omega,by omega⟩
theorem ait(e a f c:Int)(j push:Bool)(w:ω):Calls prog 18 #[χ #[ι κ e,ι κ a,ι κ f,.bool j,.bool push,ι κ c]] w λi w'=>∃p mt mg,i=τ (π (σ ⟨p,0,ν⟩))/\df (AA e a f c j push) w' p mt mg (zg mt mg []) [] []/\w.heap.size<=mt/\w.heap.size<=mg/\w.heap.size<=p/\δ w.heap.size w w':=by
 obtain⟨r,m⟩:∃l,l=if 0<=a/\a<=3 then a else 0:=⟨_,rfl⟩
 have s:=au (λw=>VK e a f c j push w);rw[<- m]at s;have z:=au m;clear m;have L:=@run_makeMap prog;go_in;go_wp2_with fail;refine(s.J _).mono ?_;rintro i w1 ⟨rfl,u⟩;have I:=au (((ah w.heap.size w).alloc (ae _) _).trans (u.mono (by simp)));clear u;go_wp2_with fail;go_ret;have d:=I.J;have y:=d.size;have m:=z.J;obtain⟨F,G,H⟩:=Gg w1 (.map #[] 0) (.map #[] 0) (ξ #[ι κ (min (max e 1) 16),ι κ r,ι κ (min (max f 1) 16),.bool j,.bool push,ι κ (min (max c 0) 4096),.map (σ w1.heap.size),.map (σ (w1.heap.size+1))] 73);have A:(((min (max e 1) 16).toNat:Nat):Int)=min (max e 1) 16:=by omega
 have C:(((if 0<=a/\a<=3 then a else 0).toNat:Nat):Int)=r:=by rw[m];split<;>omega
 have D:(((min (max f 1) 16).toNat:Nat):Int)=min (max f 1) 16:=by omega
 have E:(((min (max c 0) 4096).toNat:Nat):Int)=min (max c 0) 4096:=by omega
 refine⟨w1.heap.size+2,w1.heap.size,w1.heap.size+1,rfl,?_,y,by omega,by omega,((d.alloc y _).alloc (by simp;omega) _).alloc (by simp;omega) _⟩;exact
  { fQ:=by
     show _=σ (Obj.cells #[ι κ (((min (max e 1) 16).toNat:Nat):Int),ι κ (((if 0<=a/\a<=3 then a else 0).toNat:Nat):Int),ι κ (((min (max f 1) 16).toNat:Nat):Int),.bool j,.bool push,ι κ (((min (max c 0) 4096).toNat:Nat):Int),.map (σ w1.heap.size),.map (σ (w1.heap.size+1))] 73 (0,0));rw[A,C,D,E];exact H
    Ch:=(lS.made w1 9).kept (F.trans (ak w1 _).symm)
    Ci:=by
     have v:=lS.made (w1.alloc (.map #[] 0)) 198;have n:(w1.alloc (.map #[] 0)).heap.size=w1.heap.size+1:=by simp
     have x:=ak (w1.alloc (.map #[] 0)) (.map #[] 0);rw[n]at v x;exact v.kept (G.trans x.symm)
    ne:=by omega
    tab:=λl b=>by simp at b
    apart:=List.Pairwise.nil
    gr:=λl b=>by simp at b
    names:=λl b=>by simp at b
    sub:=λ_ d=>d
    sV:=λK d=>by
     have n:(((w1.alloc (.map #[] 0)).alloc (.map #[] 0)).alloc (ξ #[ι κ (min (max e 1) 16),ι κ r,ι κ (min (max f 1) 16),.bool j,.bool push,ι κ (min (max c 0) 4096),.map (σ w1.heap.size),.map (σ (w1.heap.size+1))] 73)).heap.size=w1.heap.size+3:=by simp
     rw[n];rcases d with i|i|⟨l,b,-⟩
     . omega
     . omega
     . simp at b
    pX:=λd=>by
     rcases d with i|i|⟨l,b,-⟩
     . omega
     . omega
     . simp at b
    few:=⟨by simp,by simp⟩ }
theorem aiu(a:Nat)(w:ω):(binOp .eql 70 (.map (σ a)) (.map ν)).run prog w=.ok (.bool false) w:=by
 first
 |rfl
 |go_simp
theorem aeE{o:uS}{w:ω}{p mt mg:Nat}{X:Nat->Prop}{tl:List (Lit×ij)}{gl:List (Lit×oV)}(a:df o w p mt mg X tl gl):Calls prog 28 #[π (σ ⟨p,0,ν⟩)] w λb w'=>b=τ (π (σ ⟨p,0,ν⟩))/\δ w.heap.size w w':=by obtain⟨d,e,f,i,j,l,m,n⟩:=fq a.fQ;clear a;have c:=aiu mt;go_in;go_wp2_with fail;go_ret;exact⟨rfl,ah _ _⟩
def VN(b:Option Nat):Nat×Nat:=match b with|some b=>(7,b)|none=>(0,0)
theorem RX{w:ω}{r:wj}{cols:List bu}(F:bz w 5 m r.vals.length (CX (r.vals.map tD)))(E:eT w n cols)(ap:r.vals.length<=302) :
 Calls prog 279 #[χ #[ι κ r.pl,m],n] w λam w'=>am=τ (χ #[ι κ (VN (iz r cols)).1,ι κ (VN (iz r cols)).2])/\δ w.heap.size w w':=by
 obtain⟨y,s,rfl⟩:=bz.slice F;obtain⟨ca,jd,rfl⟩:=E.slice;have⟨c,u⟩:=nm ((w.alloc (obQ r.pl y r.vals.length s)).alloc (iQ 0 0));have G:=xI u;have Ae:c.heap.size=w.heap.size+2:=by rw[u];simp
 have d:c.heap[w.heap.size]?=σ (obQ r.pl y r.vals.length s)/\c.heap[w.heap.size+1]?=σ (iQ 0 0):=(by rw[u];have e2:=ak (w.alloc (obQ r.pl y r.vals.length s)) (iQ 0 0);rw[show(w.alloc (obQ r.pl y r.vals.length s)).heap.size=w.heap.size+1 by simp]at e2;exact⟨(fu _ _ (by simp)).trans (ak w _),e2⟩)
 have HB:=au (λwr (W:δ c.heap.size c wr)=>(show δ w.heap.size w wr/\wr.heap[w.heap.size]?=σ (obQ r.pl y r.vals.length s)/\wr.heap[w.heap.size+1]?=σ (iQ 0 0)/\bz wr 5 (ψ y r.vals.length s) r.vals.length (CX (r.vals.map tD))/\eT wr (ψ ca cols.length jd) cols from by
  have V:=G.trans (W.mono (by omega));exact⟨V,(W.block _ (by omega)).trans d.1,(W.block _ (by omega)).trans d.2,bz.below F V (ae _),E.below V (ae _)⟩))
 have HW:=au u;have⟨R,U⟩:=br d.2;have z0:=fP d.2 0;have z1:=fP d.2 1;have⟨n0,n1⟩:=br d.1;have HF:=au d.2;have po:=au G;by_cases z:r.vals.length=cols.length;{have KN:(((r.vals.length:Nat):Int) != ((cols.length:Nat):Int))=false:=(by simp[z]);have ab:Hid (iz r cols=xl r.vals cols):=au (by unfold iz;rw[aE (by simpa using z)]);have H:=au z;clear z;clear u G Ae d F E;go_in;go_wp2_with fail;rw[<- HW.J];clear R U z0 z1 n0 n1 KN;go_loopw[19] (λN wr=>∃a:Nat,a<=r.vals.length/\N=ι κ a/\Hid (xl r.vals cols=xl (r.vals.drop a) (cols.drop a))/\Hid (δ c.heap.size c wr)) (λN _=>r.vals.length - (intOf N).toNat);(case atStart=>exact⟨0,aI _,rfl,au rfl,au (ah _ _)⟩);case round=>obtain⟨a,hi,rfl,ac,sO⟩:=hrel;obtain⟨mR,-,b,K,D⟩:=HB.J wr sO.J;have M:=au mR;have aa:=au b;by_cases cQ:a<r.vals.length;{have jY:(a:Int)<r.vals.length:=(by omega);have ao:(a:Int)<cols.length:=(by have:=H.J;omega);obtain⟨m,Z⟩:∃m,r.vals[a]?=σ m:=⟨_,af cQ⟩;obtain⟨k,L⟩:∃k,cols[a]?=σ k:=⟨_,af (by have:=H.J;omega)⟩;have ad:r.vals.drop a=m::r.vals.drop (a+1):=(by rw[cE cQ];congr 1;exact(aj.mp Z).2);have al:cols.drop a=k::cols.drop (a+1):=(by rw[cE (by have:=H.J;omega)];congr 1;exact(aj.mp L).2);have I:Hid (xl r.vals cols=if(!m.null&&!decide (m.kind=(k.2:Int)))=true then σ m.pl else xl (r.vals.drop (a+1)) (cols.drop (a+1))):=au (by rw[ac.J,ad,al];rfl);obtain⟨A,C,Eb,Y,-,aq,x⟩:=bz.at K (by omega);cases Y;have i:(r.vals.map tD)[a]?=σ (tD m):=(by rw[aU,Z];rfl);have x0:wr.cell? ⟨A,C+a*5,ν⟩=σ (ι κ m.pl):=x (a*5) _ (ek sW 5 (λ_=>rfl) _ i (j:=0) (by decide));have x1:wr.cell? ⟨A,C+a*5+1,ν⟩=σ (ι κ (tD m).kind):=x (a*5+1) _ (ek sW 5 (λ_=>rfl) _ i (j:=1) (by decide));have x2:wr.cell? ⟨A,C+a*5+2,ν⟩=σ (.bool m.null):=x (a*5+2) _ (ek sW 5 (λ_=>rfl) _ i (j:=2) (by decide));have x3:wr.cell? ⟨A,C+a*5+3,ν⟩=σ (ι κ m.n):=x (a*5+3) _ (ek sW 5 (λ_=>rfl) _ i (j:=3) (by decide));have x4:wr.cell? ⟨A,C+a*5+4,ν⟩=σ (θ m.s):=x (a*5+4) _ (ek sW 5 (λ_=>rfl) _ i (j:=4) (by decide));have⟨cg,co,Qf,Y,y0,y1⟩:=eT.get D L;cases Y;have⟨R,U⟩:=br b;have z0:=fP b 0;have z1:=fP b 1;have EU:=ay b;have an:cg<wr.heap.size:=bz.inside D (by omega) _ _ _ rfl;have J5:Hid (∀o,δ c.heap.size c (wr.alloc o)):=au (λo=>sO.J.alloc sO.J.size o);clear mR b K D x Z L i ad al;by_cases f:m.null=true;{have j:(tD m).kind=0:=(by unfold tD;rw[f];rfl);rw[j]at x1;rw[f]at x2;have e:Hid (xl r.vals cols=xl (r.vals.drop (a+1)) (cols.drop (a+1))):=au (by rw[I.J,f];rfl);clear j f;go_wp2_with fail;go_quiet(fail);go_wp2_with fail;exact⟨⟨a+1,by omega,by go_num,e,au (below_drewN (J5.J _) _)⟩,by simp[intOf];omega⟩};have l:m.null=false:=(by simpa using f);have j:(tD m).kind=m.kind:=(by unfold tD;rw[l];rfl);rw[j]at x1;rw[l]at x2;by_cases v:m.kind=(k.2:Int);{have Hj:(m.kind != (k.2:Int))=false:=(by simp[v]);have e:Hid (xl r.vals cols=xl (r.vals.drop (a+1)) (cols.drop (a+1))):=au (by rw[I.J,l,bU v];rfl);clear j f l v;go_wp2_with fail;go_quiet(fail);go_wp2_with fail;exact⟨⟨a+1,by omega,by go_num,e,au (below_drewN (J5.J _) _)⟩,by simp[intOf];omega⟩};have Hj:(m.kind != (k.2:Int))=true:=(by simp[v]);have e:Hid (iz r cols=σ m.pl):=au (by rw[ab.J,I.J,l,aN v];rfl);clear j f l v;go_wp2_with fail;go_quiet(fail);go_wp2_with fail;have⟨⟨O,P⟩,Q⟩:=ik (w1:=(wr.alloc (ξ #[ι κ m.pl,ι κ m.kind,.bool false,ι κ m.n,θ m.s] 250)).drewN nq) (below_drewN (M.J.alloc M.J.size _) _) (bF _) ((fu wr _ EU).trans aa.J) (ι κ 7) (ι κ m.pl);refine aD (by simp[results,results279,go_sem,O,P];rfl) rfl ?_;exact⟨by rw[e.J];rfl,Q⟩};obtain rfl:a=r.vals.length:=(by omega);have e:Hid (iz r cols=ν):=au (by rw[ab.J,ac.J,gB];cases cols.drop r.vals.length<;>rfl);have⟨R,U⟩:=br b;have z0:=fP b 0;have z1:=fP b 1;clear mR b K D;go_wp2_with fail;have⟨⟨O,P⟩,Q⟩:=ik M.J (bF _) aa.J (ι κ 0) (ι κ 0);refine aD (by simp[results,results279,go_sem,O,P];rfl) rfl ?_;exact⟨by rw[e.J];rfl,Q⟩};have KN:¬((r.vals.length:Nat):Int)=cols.length:=(by omega);have HR:Hid (iz r cols=σ r.pl):=au (by unfold iz;rw[aF z]);clear u G Ae d F E;go_in;go_wp2_with fail;refine aD (by simp[results,results279,go_sem];rfl) rfl ?_;exact⟨by rw[HR.J];rfl,((ah _ _).alloc (ae _) _).alloc (by simp) _⟩
end
theorem MY{b c:Type}:∀a:List (b×c),(a.map (·.1)).zip (a.map (·.2))=a
 |[]=>rfl
 |x::a=>by rw[eG,eG,nL,MY a]
theorem O9.act{w:ω}{a:eZ}(d:O9 w v m a):D8 w m (qv a).2:=by cases d with|aeV b l q=>exact .gK b l|arT m c q e=>(have b:(qv { bare qD q with names:=c.map (·.1),exprs:=c.map (·.2) }).2=.mapA ((c.map (·.1)).zip (c.map (·.2))):=rfl;rw[b,MY];exact .mapA m c (bz.fM e))|aeW j q=>exact .kh j|aeX a d=>obtain⟨e,f,i⟩:=d;have b:(qv a).2=.gF a.pl:=(by simp[qv,e,f,i]);rw[b];exact .gF a.pl
theorem Each.pair{b c:Type}{d:b->c->Prop}:∀{j:List b} {l:List c},Each d j l->∀{i:Nat} {e:b} {f:c},j[i]?=σ e->l[i]?=σ f->d e f
 |[],[],_,_,_,_,a,_=>by simp at a
 |_::_,_::_,a,0,_,_,h1,h2=>by
   simp at h1 h2;subst h1 h2;exact a.1
 |_::_,_::_,a,_+1,_,_,h1,h2=>Each.pair a.2 (by simpa using h1) (by simpa using h2)
 |[],_::_,a,_,_,_,_,_=>absurd a (λa=>a)
 |_::_,[],a,_,_,_,_,_=>absurd a (λa=>a)
theorem MZ{i:Nat×υ->eZ->Prop}:∀{d:List (Nat×υ)} {e:List eZ},Each (λb c=>b.1=c.pl/\i b c) d e->(((e.map qv).zip (d.map (·.2))).flatMap λf=>[ι κ f.1.1,f.2])=uH d
 |[],[],_=>rfl
 |b::u,c::v,a=>by
   have l:=MZ a.2;have j:(qv c).1=b.1:=a.1.1.symm;rw[eG,eG,nL,iI,l,j];rfl
 |[],_::_,a=>absurd a (λa=>a)
 |_::_,[],a=>absurd a (λa=>a)
theorem aiF{w:ω}{a:List (Nat×υ)}{j:List eZ}(l:w.ownsRow v 193 2 m a.length (uH a))(b:Each (λd c=>d.1=c.pl/\O9 w v d.2 c) a j):vQ w m (j.map qv):=by have i:=b.len;refine⟨a.map (·.2),by rw[aR,aR,i],?_,λu c s e f=>?_⟩;{rw[MZ b,aR,<- i];exact bz.fM l};rw[aU]at e f;obtain⟨x,n,rfl⟩:=dU.mp e;obtain⟨y,r,rfl⟩:=dU.mp f;exact(b.pair r n).2.act
theorem aiG{e:eZ}(a:yu e):qg (qv e).2:=by unfold qv;simp only;split;{split;{rename_i f i u m;have:=a.2.1 (f,i) (by rw[m];simp);exact⟨this.1,this.2.1.1⟩};trivial};split;{rename_i n;obtain⟨b,s,j⟩:=a.2.2 n;refine⟨j,by rw[List.length_zip];omega,λd r=>?_⟩;obtain⟨c,l⟩:=List.of_mem_zip (a:=d.1) (b:=d.2) r;have:=a.2.1 _ l;exact⟨this.1,this.2.1.1,(b _ c).1,(b _ c).2.2⟩};split<;>trivial
theorem anD{c:eZ}(a:yu c):Kh (qv c).2:=by unfold qv;simp only;split;{split;{rename_i d e u l;have:=a.2.1 (d,e) (by rw[l];simp);exact⟨this.2.1.2,this.2.2⟩};exact a.1};split;{rename_i m;obtain⟨f,r,s⟩:=a.2.2 m;intro b n;obtain⟨i,j⟩:=List.of_mem_zip (a:=b.1) (b:=b.2) n;exact⟨(f _ i).2.1,(a.2.1 _ j).2.1.2⟩};split;{trivial};exact a.1
theorem Em{c:List eZ}(d:∀a∈c,yu a):∀b∈c.map qv,qg b.2:=λb e=>by
 obtain⟨a,f,rfl⟩:=cI.mp e;exact aiG (d a f)
theorem aiH{e:List eZ}(c:∀a∈e,yu a):∀b∈e.map qv,b.1<=300/\Kh b.2:=λb f=>by
 obtain⟨a,d,rfl⟩:=cI.mp f;exact⟨(c a d).1,anD (c a d)⟩
section
open Go.Maps
theorem akv{X:ω}{x y:υ}{t:TypeId}(a:X.heap[v]?=σ (ξ #[m,n] t (0,0)))(c:δ l.heap.size l X)(b:l.heap.size<=v):(((X.setCell (Ad v 0) x).setCell (Ad v 1) y).cell? (Ad v 0)=σ x/\((X.setCell (Ad v 0) x).setCell (Ad v 1) y).cell? (Ad v 1)=σ y)/\δ l.heap.size l ((X.setCell (Ad v 0) x).setCell (Ad v 1) y):=OO a c b
abbrev QT:=(Nat×Nat) ⊕ (List bu×List (List aB))
def V1:QT->Nat×Nat
 |.inl f=>f
 |.inr _=>(0,0)
def ShQ(M:Nat->Prop)(Q:QT)(X:ω)(kv bv:υ):Prop:=∀x,Q=.inr x->(oo M X kv x.1/\jC M X bv (bh x.1.length x.2))/\mS x.1/\0<x.1.length/\fH x.1 x.2/\x.2.length<=64
theorem ShQ.below{a:QT}{X:ω}(c:ShQ s a X m n)(b:δ X.heap.size X l):ShQ s a l m n:=λj i=>by
 have⟨⟨d,e⟩,f⟩:=c j i;exact⟨⟨d.below b,e.below b⟩,f⟩
theorem aed.apart{w w':ω}{a:QT}{j:Ending}(e:aed w w' a j):∃d i c2 c f c1,j=τ (.tuple #[χ #[ψ d i c2,ψ c f c1],χ #[ι κ (V1 a).1,ι κ (V1 a).2]])/\ShQ (λb=>b<w.heap.size\/w'.heap.size<=b) a w' (ψ d i c2) (ψ c f c1)/\δ w.heap.size w w':=by obtain⟨l,r,s⟩:=e;cases hQ:a with|inl n=>(exact⟨_,_,_,_,_,_,r n hQ,λm y=>(by cases y),l⟩)|inr m=>have⟨d,i,c2,c,f,c1,x,u,v⟩:=s m hQ;have⟨A,C⟩:=u (λb=>b<w.heap.size) (λ_ e=>e);exact⟨_,_,_,_,_,_,x,λD z=>by cases z;exact⟨⟨A.grow (ah _ _),C.moves (ae _) (λ_ _ _=>rfl)⟩,v⟩,l⟩
def arX(Q:QT)(g:Nat×Nat):GZ:=⟨λv lo hi X=>∃a2 m2 c2 a1 m1 c1,v=.tuple #[χ #[ψ a2 m2 c2,ψ a1 m1 c1],χ #[ι κ g.1,ι κ g.2]]/\ShQ (λb=>b<lo\/hi<=b) Q X (ψ a2 m2 c2) (ψ a1 m1 c1),λ_ _ _ _ _ ⟨a2,m2,c2,a1,m1,c1,h1,h2⟩ hb=>⟨a2,m2,c2,a1,m1,c1,h1,h2.below hb⟩⟩
def ayi(Q:QT):GZ:=⟨λv lo hi X=>∃a2 m2 c2 a1 m1 c1,v=χ #[ψ a2 m2 c2,ψ a1 m1 c1]/\ShQ (λb=>b<lo\/hi<=b) Q X (ψ a2 m2 c2) (ψ a1 m1 c1),λ_ _ _ _ _ ⟨a2,m2,c2,a1,m1,c1,h1,h2⟩ hb=>⟨a2,m2,c2,a1,m1,c1,h1,h2.below hb⟩⟩
theorem M0{X:ω}{F:QT}{r:Nat}{L:TypeId}(P:X.heap[v]?=σ (ξ #[b,a] d (0,0)))(Q:X.heap[e]?=σ (ξ #[y,z] L (0,0)))(H:v≠e)(U:v<W\/r<=v)(V:e<W\/r<=e)(Y:ShQ (λc=>c<W\/r<=c) F X m n)(hw:δ l.heap.size l X)(I:l.heap.size<=v)(K:l.heap.size<=e)(i j:υ){Z:ω}(R:Z=(((X.setCell (Ad v 0) m).setCell (Ad v 1) n).setCell (Ad e 0) i).setCell (Ad e 1) j) :
 Z.heap[v]?=σ (ξ #[m,n] d (0,0))/\Z.heap[e]?=σ (ξ #[i,j] L (0,0))/\ShQ (λ_=>False) F Z m n/\δ l.heap.size l Z:=by
 subst R;have G:∀c,c≠e->((((X.setCell (Ad v 0) m).setCell (Ad v 1) n).setCell (Ad e 0) i).setCell (Ad e 1) j).heap[c]?=((X.setCell (Ad v 0) m).setCell (Ad v 1) n).heap[c]?:=λc f=>(az _ _ _ _ f).trans (az _ _ _ _ f);have g:∀c,c≠v->((X.setCell (Ad v 0) m).setCell (Ad v 1) n).heap[c]?=X.heap[c]?:=λc f=>(az _ _ _ _ f).trans (az _ _ _ _ f);have s:X.heap.size<=((((X.setCell (Ad v 0) m).setCell (Ad v 1) n).setCell (Ad e 0) i).setCell (Ad e 1) j).heap.size:=by simp[World.setCell]
 have k:∀c,¬(c<W\/r<=c)->((((X.setCell (Ad v 0) m).setCell (Ad v 1) n).setCell (Ad e 0) i).setCell (Ad e 1) j).heap[c]?=X.heap[c]?:=λc f=>(G c (λC=>f (C ▸ V))).trans (g c (λC=>f (C ▸ U)));refine⟨(G _ H).trans (tY P),tY ((g _ H.symm).trans Q),λaa hx=>?_,(((hw.setCell I _).setCell I _).setCell K _).setCell K _⟩;have⟨⟨M,N⟩,O⟩:=Y aa hx;exact⟨⟨λu D E=>M u (ag s D) (λc x A=>(E c (ai x s) id).trans (k c A)),λu D E=>N u (ag s D) (λc x A=>(E c (ai x s) id).trans (k c A))⟩,O⟩
theorem Sp{w1:ω}{g:υ}{t:TypeId}(c:w1.heap[v]?=σ (ξ #[m,n,b,a,y,z,g,j] t (0,0))):w1.cell? (Ad v 0)=σ m/\w1.cell? (Ad v 1)=σ n/\w1.cell? (Ad v 2)=σ b/\w1.cell? (Ad v 3)=σ a/\w1.cell? (Ad v 4)=σ y/\w1.cell? (Ad v 5)=σ z:=by simp[World.cell?,c]
theorem V2{o:uS}{w:ω}{p mt mg:Nat}{X:Nat->Prop}{tl:List (Lit×ij)}{gl:List (Lit×oV)}(a:df o w p mt mg X tl gl){K:ByteArray}(hu:K.size<=maxLen){pl:Nat}{t:Nm}(ht:nT t){cB:υ}{c:List mK}(i:vQ w cB c)(cl:∀G∈c,qg G.2)(dl:c.length<=300)(hk:qS w)(hp:vR w) :
 Calls prog 47 #[χ #[ι κ pl,θ t.1,ι κ t.2,cB],π (σ (Ad p 0)),θ K] w λds w'=>ds=τ (.tuple #[θ ⟨(lM o.bud (de tl gl) K pl t c).1.toArray⟩,χ #[ι κ (lM o.bud (de tl gl) K pl t c).2.1,ι κ (lM o.bud (de tl gl) K pl t c).2.2]])/\δ w.heap.size w w':=by
 obtain⟨V,Q,rfl⟩:=i.slice;have⟨W0,A8⟩:=nm ((w.alloc (obK pl t.1 t.2 V c.length Q)).alloc (iQ 0 0));have ny:=xI A8;have lU:W0.heap.size=w.heap.size+2:=by rw[A8];simp
 have x:W0.heap[w.heap.size]?=σ (obK pl t.1 t.2 V c.length Q)/\W0.heap[w.heap.size+1]?=σ (iQ 0 0):=(by rw[A8];have u:=ak (w.alloc (obK pl t.1 t.2 V c.length Q)) (iQ 0 0);rw[show(w.alloc (obK pl t.1 t.2 V c.length Q)).heap.size=w.heap.size+1 by simp]at u;exact⟨(fu _ _ (by simp)).trans (ak w _),u⟩)
 have HS:=au (λwr (b:δ W0.heap.size W0 wr)=>(show df o wr p mt mg X tl gl/\vQ wr (ψ V c.length Q) c/\qS wr/\vR wr/\δ w.heap.size w wr/\wr.heap[w.heap.size]?=σ (obK pl t.1 t.2 V c.length Q)/\wr.heap[w.heap.size+1]?=σ (iQ 0 0)from by
  have C:=ny.trans (b.mono (by omega));exact⟨a.below C,i.below C (ae _),hk.below C (ae _),hp.below C (ae _),C,(b.block _ (by omega)).trans x.1,(b.block _ (by omega)).trans x.2⟩))
 have c6:=au (VA (a.below ny) hu (table:=t.1) (by have:=ht.1;unfold maxLen;omega));have Tq:=au A8;have xD:=ay a.fQ;clear a i hk hp ny x A8;go_in;go_wp2_with fail;rw[<- Tq.J];refine c6.J.mono ?_;rintro ar w1 ⟨⟨tv,d1,wv,dS,rfl,⟨⟨ta,rfl⟩,⟨Y,sn,W,rfl⟩,bw⟩,lA⟩,C⟩;have⟨IL,Zc,oz,IA,M1,bt,Sr⟩:=HS.J w1 C;have dN:∀(a5:Addr) (cA:Go.Mode) (w:ω),(store a5 wv cA).run prog w=stored prog w a5 wv cA:=(by rcases bw with rfl|⟨k,be,rfl⟩;{exact nX};exact jz k be);have⟨q0,q1,q2,q3⟩:=eQ bt;have⟨f0,f1⟩:=br Sr;have H:=fP Sr 0;have I:=fP Sr 1;have iC:=au C;have cd:=au M1;have b9:=au Sr;have KM:=ay bt;have EU:=ay Sr;clear IL Zc oz IA M1 bt Sr C;rcases lA with⟨rfl,Cd⟩|⟨rfl,s,r,aC,a5,v,hl,zq,Z6,G4,np,hF,h0,h5,GY,ce⟩
 .have HA:Hid (lM o.bud (de tl gl) K pl t c=([],5,t.2)):=au (by unfold lM;rw[Cd]);clear Cd;rcases bw with rfl|⟨k,be,rfl⟩
  {go_wp2_with fail;go_region;all_goals (try go_wp2_with fail);have⟨⟨D,E⟩,u⟩:=O1 cd.J (bF _) b9.J (ι κ 5) (ι κ t.2) (Pt (.pointer ta) Y sn W .nilFunc);refine aD (by simp[results,results47,go_sem,D,E];rfl) rfl ?_;exact⟨by rw[HA.J];rfl,u⟩};go_wp2_with fail;go_region;all_goals (try go_wp2_with fail);have⟨⟨D,E⟩,u⟩:=O1 cd.J (bF _) b9.J (ι κ 5) (ι κ t.2) (Pt (.pointer ta) Y sn W (.func (.func k) #[] be));refine aD (by simp[results,results47,go_sem,D,E];rfl) rfl ?_;exact⟨by rw[HA.J];rfl,u⟩
 unfold ij.val at zq;cases zq;have c9:=G4;obtain⟨fk,fc,dn,-⟩:=c9;subst dn;clear bw;have⟨TH,Ji,DF⟩:=bz.slice Z6;cases DF;have⟨j,rC⟩:=nm (w1.alloc (Pt (π (σ (Ad s.q 0))) Y r.length W (.func (.func fk) #[] fc)));have jw:δ w1.heap.size w1 j:=by rw[rC];exact lH _ _
 have cx:j.heap[w1.heap.size]?=σ (Pt (π (σ (Ad s.q 0))) Y r.length W (.func (.func fk) #[] fc)):=by rw[rC];exact ak w1 _
 have cg:=iC.J.trans (jw.mono iC.J.size);have⟨IL,bd,oz,IA,M1,cs,cj⟩:=HS.J j cg;have y:=IL.tab _ (nh hl);have bl:uZ o j s.q (ψ Y r.length W) (.func (.func fk) #[] fc) s.cols r aC s.Cs:=⟨⟨_,_,_,_,y.fQ,y.KR,bz.fM y.own,y.tC⟩,⟨a5,v,G4,np.below jw⟩,bz.below Z6 jw (ae _),y.chk,y.few,y.c0,y.Fs.1,GY,h0,h5,hF,λrow hr=>OM (y.fit row hr)⟩;have Pv:=JX y.Fs h5 GY;have cv:=JY y.fit GY aC;have hA:lM o.bud (de tl gl) K pl t c=if(gw (r.map λG=>s.cols.getD G default) c).1≠0 then([],(gw (r.map λG=>s.cols.getD G default) c).1,(gw (r.map λG=>s.cols.getD G default) c).2)else match ng o.bud pl (r.map λG=>s.cols.getD G default) (kR aC r s.Cs.flatten) c with|.inl g=>([],g.1,g.2)|.inr an=>(sU an.1 an.2,0,0):=by unfold lM;rw[ce];rfl
 have EH:=au (λX (a:δ j.heap.size j X)=>(bl.below a).XK);have ap:=au (λX (a:δ j.heap.size j X) MH xK=>aee (o:=o) (pl:=pl) (tp:=t.2) (t:=t.1) (bl.below a) (bd.below a (ae _)) cl dl MH xK cv);have⟨aa,hC⟩:=nm (r.map λG=>s.cols.getD G default);have dd:aa.length=r.length:=by rw[hC,aR]
 have hN:Au aa:=by unfold Au;omega
 rw[<- hC]at hA Pv EH ap;have c8:Hid (mS aa):=au ⟨ag Pv.1 (by decide),Pv.2⟩;have b7:=au (λX (a:δ j.heap.size j X) ca cm cc (hc:eT X (ψ ca cm cc) aa)=>Z1 (pl:=pl) (tp:=t.2) (t:=t.1) (bd.below a (ae _)) cl (by omega) hc hN);have⟨S,hS⟩:=nm (kR aC r s.Cs.flatten);rw[<- hS]at hA ap;have⟨e,MH⟩:=nm (gw aa c);rw[<- MH]at hA b7 ap;have⟨Q0,bi⟩:=nm (ng o.bud pl aa S c);rw[<- bi]at hA ap;have HZ:Hid (e.1=0->e=(0,0)):=au (λa=>by rw[MH]at a ⊢;exact Kg a);have c5:Hid (∀al,Q0=.inl al->al.1≠0):=au (λal a=>vT (bi.symm.trans a));have HA:=au hA;have a0:=au (λX (a:δ j.heap.size j X)=>(show(X.cell? (Ad w.heap.size 0)=σ (ι κ pl)/\X.cell? (Ad w.heap.size 1)=σ (θ t.1)/\X.cell? (Ad w.heap.size 2)=σ (ι κ t.2)/\X.cell? (Ad w.heap.size 3)=σ (ψ V c.length Q))/\(X.cell? (Ad w1.heap.size 0)=σ (π (σ (Ad s.q 0)))/\X.cell? (Ad w1.heap.size 1)=σ (ψ Y r.length W)/\X.cell? (Ad w1.heap.size 2)=σ (.func (.func fk) #[] fc))/\X.heap[w.heap.size+1]?=σ (iQ 0 0)/\X.heap[p]?=j.heap[p]?/\qS X/\vR X/\δ w.heap.size w X from
  ⟨eQ (wK a _ _ cs),bf (wK a _ _ cx),wK a _ _ cj,a.block p (ay IL.fQ),oz.below a (ae _),IA.below a (ae _),M1.trans (a.mono M1.size)⟩))
 have c0:=au IL.fQ;have FW:=au rC;have EP:prog.follows .mixedOrders=true:=by kernel_rfl
 clear hl Z6 G4 np hF GY ce rC jw cx cg IL bd oz IA M1 cs cj y bl Pv cv hA hC dd hN hS MH bi HS iC;go_wp2_with fail;rw[<- FW.J];clear q0 q1 q2 q3 f0 f1 H I;refine rX (n:=5) (m:=1) (z:=51) [.is (χ #[ι κ pl,θ t.1,ι κ t.2,ψ V c.length Q]),.is (χ #[π (σ (Ad s.q 0)),ψ Y r.length W,.func (.func fk) #[] fc]),XL aa,.is (χ #[ι κ e.1,ι κ e.2]),.box #[ι κ 0,ι κ 0] 76] EP rfl (by kernel_rfl) ⟨⟨⟨⟨⟨trivial,?_⟩,?_⟩,?s2⟩,?s3⟩,?s4⟩ ?fin;(case s2=>refineλd v F X b ⟨hf,(l:d (.tmp 29)=_),_⟩=>fO rfl hf call69 (by simp[l]) (EH.J X ((aH (ah _ _)).trans b)) ?_;rintro _ X1 ⟨m,n,c2,rfl,Md,cV⟩;exact⟨_,rfl,⟨_,_,_,rfl,Md⟩,cV⟩);(case s3=>refineλd v F X b ⟨hf,(l:d (.tmp 28)=_),⟨m,n,c2,(a3:d (.tmp 30)=_),Md⟩,_⟩=>fO rfl hf call68 (by simp[l,a3]) (b7.J X ((aH (ah _ _)).trans b) m n c2 Md) ?_;rintro _ X1 ⟨rfl,C⟩;exact⟨_,rfl,rfl,C⟩);case s4=>exactλd v F X b _=>fV (v:=π (σ (Ad X.heap.size 0))) (w':=X.alloc _) (by go_simp) ⟨⟨by simp,rfl,ak X _⟩,lH X _⟩
 case fin=>
  intro val ad co X b i _;have v3:val 3=_:=(i 3 (by decide)).1;obtain⟨⟨h4,v4,aq⟩,cp,-,-⟩:=i 4 (by decide);clear i;generalize ad 4=b4 at *;have⟨x0,x1⟩:=aS aq;have H:=fP aq 0;have I:=fP aq 1;simp[nH,iH,Act.put,v3,v4];refine nS (i:=5) (by kernel_rfl) rfl (by rfl) ?_;unfold jB;go_simp;refine qQ (by kernel_rfl) ?_ _;have⟨X1,a9⟩:=nm ((X.setCell (Ad b4 0) (ι κ e.1)).setCell (Ad b4 1) (ι κ e.2));rw[<- a9];have oB:j.heap.size<=b4:=cp;have ci:δ j.heap.size j X1:=by rw[a9];exact(b.setCell oB _).setCell oB _
  have yv:X1.heap[b4]?=σ (iQ e.1 e.2):=by rw[a9];exact tY aq
  have⟨k0,k1⟩:=aS yv;have JM:=au ci;have Xh:=au yv;clear x0 x1 H I v3 v4 h4 aq cp b a9 ci yv;generalize val 0=u0;generalize val 1=u1;generalize val 2=u2;go_wp2_with fail;refine(K9 _ _ _).mono ?_;rintro _ Z ⟨rfl,zn⟩;have LI:=JM.J.trans (zn.mono JM.J.size);have RF:=wK zn _ _ Xh.J;clear k0 k1;by_cases U:e.1=0
  .have d0:(((e.1:Nat):Int) != 0)=false:=(by rw[U];rfl);have A:=au LI;have cS:=au (HZ.J U);have⟨g,hg⟩:=nm (V1 Q0);have HG:=au hg;clear hg;clear RF LI zn;go_wp2_with fail;go_cut[11,12]from 35 to 44 (λs11 dI wx=>∃L N m n c2 l z c1,s11=π (σ (Ad L 0))/\dI=π (σ (Ad N 0))/\Hid (wx.heap[L]?=σ (xG m n c2 l z c1)/\wx.heap[N]?=σ (iQ g.1 g.2)/\ShQ (λ_=>False) Q0 wx (ψ m n c2) (ψ l z c1)/\δ j.heap.size j wx))
   (case first=>have c7:=au (λX (a:δ Z.heap.size Z X)=>ap.J X (A.J.trans (a.mono A.J.size)) cS.J c8.J);have b8:=au (λX (a:δ Z.heap.size Z X)=>a0.J X (A.J.trans (a.mono A.J.size)));refine Q7 (n:=12) (m:=2) (z:=51) (l:=9) (q:=12) (λbx=>if bx=7 then 6 else if bx=8 then 7 else bx) [.is (χ #[ι κ pl,θ t.1,ι κ t.2,ψ V c.length Q]),.is (χ #[π (σ (Ad s.q 0)),ψ Y r.length W,.func (.func fk) #[] fc]),.is (π (σ (Ad p 0))),.is (π (σ (Ad p 0))),.is (π (σ (Ad p 0))),.is (.agg (QR o).toArray),arX Q0 g,arX Q0 g,ayi Q0,.is (χ #[ι κ g.1,ι κ g.2]),.box #[ψ ν 0 0,ψ ν 0 0] 154,.box #[ι κ 0,ι κ 0] 76] EP (by decide) rfl (by kernel_rfl) (by kernel_rfl) ⟨⟨⟨⟨⟨⟨⟨⟨⟨⟨⟨⟨trivial,?_⟩,?_⟩,?_⟩,?_⟩,?_⟩,?s5⟩,?s6⟩,?s7⟩,?s8⟩,?s9⟩,?s10⟩,?s11⟩ ?late ?fin;(case s6=>refineλd v F X b ⟨hf,(D:d (.tmp 36)=_),(E:d (.tmp 37)=_),(u:d (.tmp 41)=_),_⟩=>fO rfl hf call70 (by simp[D,E,u]) (c7.J X ((aH (ah _ _)).trans b)) ?_;intro ar X1 hq;obtain⟨m,n,c2,l,z,c1,rfl,h1,h2⟩:=hq.apart;rw[<- HG.J];exact⟨_,rfl,⟨m,n,c2,l,z,c1,rfl,h1⟩,h2⟩);(case s7=>refineλd v F X b ⟨⟨m,n,c2,l,z,c1,(ar:d (.tmp 42)=_),h1⟩,_⟩=>fV (w':=X) ?_ ⟨⟨m,n,c2,l,z,c1,rfl,h1⟩,ah _ _⟩;go_simp);(case s8=>refineλd v F X b ⟨⟨m,n,c2,l,z,c1,(ar:d (.tmp 35)=_),h1⟩,_⟩=>fV (w':=X) ?_ ⟨⟨m,n,c2,l,z,c1,rfl,h1⟩,ah _ _⟩;go_simp);(case s9=>refineλd v F X b ⟨⟨m,n,c2,l,z,c1,(ar:d (.tmp 35)=_),h1⟩,_⟩=>fV (w':=X) ?_ ⟨rfl,ah _ _⟩;go_simp);(case s10=>exactλd v F X b _=>fV (v:=π (σ (Ad X.heap.size 0))) (w':=X.alloc _) (by go_simp) ⟨⟨by simp[wZ],rfl,ak X _⟩,lH X _⟩);(case s11=>exactλd v F X b _=>fV (v:=π (σ (Ad X.heap.size 0))) (w':=X.alloc _) (by go_simp) ⟨⟨by simp[wZ],rfl,ak X _⟩,lH X _⟩);(case s5=>refineλd v F X b ⟨(ar:d (.tmp 40)=_),_⟩=>fV (w':=X) ?_ ⟨rfl,ah _ _⟩;obtain⟨-,-,-,dg,-⟩:=b8.J X ((aH (ah _ _)).trans b);have⟨p0,p1,p2,p3,p4,p5⟩:=Sp (dg.trans c0.J);go_simp;rfl);(case late=>intro val ad co X b i M Bb;obtain⟨a4,m4,c4,a3,m3,c3,v7,-⟩:=(i 7 (by decide) (by decide)).1;have⟨m,n,c2,l,z,c1,v8,s8⟩:=(i 8 (by decide) (by decide)).1;obtain⟨⟨Xy,b5,O⟩,b0,-,-⟩:=i 10 (by decide) (by decide);obtain⟨⟨db,b6,P⟩,b1,-,-⟩:=i 11 (by decide) (by decide);have TC:=Bb 8 (by decide) (by decide) (by decide);have Vg:=Bb 7 (by decide) (by decide) (by decide);have fy:=M 10 11 (by decide) (by decide) (by decide) (by decide) (by decide) rfl rfl;have ha:=M 6 10 (by decide) (by decide) (by decide) (by decide) (by decide) rfl rfl;have zm:=M 6 11 (by decide) (by decide) (by decide) (by decide) (by decide) rfl rfl;clear i M Bb;generalize ad 10=L at *;generalize ad 11=N at *;have HE:=au (λ(f:ω) R=>M0 (Z:=f) O P (by omega) (by simp at TC Vg;omega) (by simp at TC Vg;omega) s8 (A.J.trans (b.mono A.J.size)) (ag A.J.size b0) (ag A.J.size b1) (ι κ g.1) (ι κ g.2) R);have⟨x0,x1⟩:=aS O;have⟨y0,y1⟩:=aS P;have H:=fP O 0;have I:=fP O 1;have z2:=fP P 0;have z3:=fP P 1;have n1:L≠N:=(by omega);have n2:N≠L:=(by omega);clear TC Vg ha zm s8 fy;simp[nH,iH,Act.put,v7,v8,b5,b6];refine amw (i:=12) rfl (by rfl) ?_;unfold jB;go_simp;refine nS (i:=9) (by kernel_rfl) rfl (by rfl) ?_;unfold jB;go_simp;refine nS (i:=13) (by kernel_rfl) rfl (by rfl) ?_;unfold jB;go_simp;refine qQ (by kernel_rfl) ?_ _;go_wp2;go_meet;exact⟨_,_,_,_,_,_,_,_,rfl,rfl,au (HE.J _ rfl)⟩);(case fin=>intro val ad co X b i M Bb;have⟨m,n,c2,l,z,c1,v8,s8⟩:=(i 8 (by decide)).1;have v9:val 9=_:=(i 9 (by decide)).1;obtain⟨⟨Xy,b5,O⟩,b0,-,-⟩:=i 10 (by decide);obtain⟨⟨db,b6,P⟩,b1,-,-⟩:=i 11 (by decide);have TC:=Bb 8 (by decide) (by decide);have Vg:=Bb 7 (by decide) (by decide);have fy:=M 10 11 (by decide) (by decide) (by decide) rfl rfl;have ha:=M 6 10 (by decide) (by decide) (by decide) rfl rfl;have zm:=M 6 11 (by decide) (by decide) (by decide) rfl rfl;clear i M Bb;generalize ad 10=L at *;generalize ad 11=N at *;have HE:=au (λ(f:ω) R=>M0 (Z:=f) O P (by omega) (by simp at TC Vg;omega) (by simp at TC Vg;omega) s8 (A.J.trans (b.mono A.J.size)) (ag A.J.size b0) (ag A.J.size b1) (ι κ g.1) (ι κ g.2) R);have⟨x0,x1⟩:=aS O;have⟨y0,y1⟩:=aS P;have H:=fP O 0;have I:=fP O 1;have z2:=fP P 0;have z3:=fP P 1;have n1:L≠N:=(by omega);have n2:N≠L:=(by omega);clear TC Vg ha zm s8 fy;simp[nH,iH,Act.put,v8,v9,b5,b6];refine nS (i:=12) (by kernel_rfl) rfl (by rfl) ?_;unfold jB;go_simp;refine nS (i:=13) (by kernel_rfl) rfl (by rfl) ?_;unfold jB;go_simp;refine qQ (by kernel_rfl) ?_ _;go_wp2;go_meet;exact⟨_,_,_,_,_,_,_,_,rfl,rfl,au (HE.J _ rfl)⟩);all_goals refineλd v F X b ⟨(l:d _=_),_⟩=>fV (w':=X) ?_ ⟨rfl,ah _ _⟩;obtain⟨⟨H,I,z2,z3⟩,⟨z4,z5,z6⟩,-⟩:=b8.J X ((aH (ah _ _)).trans b);go_simp);case rest=>obtain⟨L,N,m,n,c2,l,z,c1,rfl,rfl,HC⟩:=hcut;have⟨W7,h7⟩:=nm wc;subst h7;have⟨ba,ax,bb,Fp⟩:=HC.J;have⟨k0,k1⟩:=aS ax;clear ba ax bb Fp;go_wp2_with fail;refine(K9 _ _ _).mono ?_;rintro _ w8 ⟨rfl,Ek⟩;clear k0 k1;have⟨ba,ax,bb,Fp⟩:=HC.J;have bg:=Fp.trans (Ek.mono Fp.size);have b2:=wK Ek _ _ ba;have b3:=wK Ek _ _ ax;have bv:=bb.below Ek;clear ba ax bb Fp HC Ek;obtain⟨-,-,ab,-,zR,bo,a8⟩:=a0.J w8 bg;have⟨f0,f1⟩:=aS ab;have H:=fP ab 0;have I:=fP ab 1;cases x:Q0 with|inl al=>(have am:g=al:=(by rw[HG.J,x];rfl);have cn:(((g.1:Nat):Int) != 0)=true:=(by rw[am];simpa using c5.J al x);have ao:Hid (lM o.bud (de tl gl) K pl t c=([],g.1,g.2)):=au (by rw[HA.J,aE (by simpa using U),x,am]);have⟨k0,k1⟩:=aS b3;have ac:=akv (X:=w8) (x:=ι κ g.1) (y:=ι κ g.2) ab a8 (bF _);have bc:Hid (∀f,f=((w8.setCell (Ad (w.heap.size+1) 0) (ι κ g.1)).setCell (Ad (w.heap.size+1) 1) (ι κ g.2)).drew->(f.cell? (Ad (w.heap.size+1) 0)=σ (ι κ g.1)/\f.cell? (Ad (w.heap.size+1) 1)=σ (ι κ g.2))/\δ w.heap.size w f):=au (by rintro f rfl;exact⟨ac.1,aH ac.2⟩);clear ac am x U b2 b3 bv ab zR bo a8 bg;go_wp2_with fail;go_region;all_goals (try go_wp2_with fail);have⟨f,R⟩:=nm (((w8.setCell (Ad (w.heap.size+1) 0) (ι κ g.1)).setCell (Ad (w.heap.size+1) 1) (ι κ g.2)).drew);rw[<- R];have⟨⟨D,E⟩,u⟩:=bc.J f R;refine aD (by simp[results,results47,go_sem,D,E];rfl) rfl ?_;exact⟨by rw[ao.J],u⟩)|inr an=>have am:g=(0,0):=(by rw[HG.J,x];rfl);have cn:(((g.1:Nat):Int) != 0)=false:=(by rw[am];rfl);have ao:Hid (lM o.bud (de tl gl) K pl t c=(sU an.1 an.2,0,0)):=au (by rw[HA.J,aE (by simpa using U),x]);have⟨⟨s1,s2⟩,s3,s4,s5,s6⟩:=bv an x;have HT:=au (ad7 s3 s5 s6 s4 (s1 w8 (ae _) (λ_ _ _=>rfl)) s2.batch zR bo);have⟨y0,y1⟩:=aS b2;have cb:=au a8;have cQ:=au ab;clear am x U b2 b3 bv ab zR bo a8 bg s1 s2 s3 s4 s5 s6 f0 f1 H I;go_wp2_with fail;refine HT.J.mono ?_;rintro _ w9 ⟨rfl,bm⟩;have cr:=cb.J.trans (bm.mono cb.J.size);have av:=wK bm _ _ cQ.J;have⟨f0,f1⟩:=aS av;have H:=fP av 0;have I:=fP av 1;have cN:=au (ik cr (bF _) av (ι κ 0) (ι κ 0));clear y0 y1 bm cr av;go_wp2_with fail;have⟨⟨D,E⟩,u⟩:=cN.J;refine aD (by simp[results,results47,go_sem,D,E];rfl) rfl ?_;exact⟨by rw[ao.J];rfl,u⟩
  have cn:(((e.1:Nat):Int) != 0)=true:=(by simpa using U);have ao:Hid (lM o.bud (de tl gl) K pl t c=([],e.1,e.2)):=au (by rw[HA.J,aF U]);obtain⟨-,-,Aw,-,-,-,cf⟩:=a0.J Z LI;have⟨k0,k1⟩:=aS RF;have⟨f0,f1⟩:=aS Aw;have H:=fP Aw 0;have I:=fP Aw 1;have ac:=akv (X:=Z) (x:=ι κ e.1) (y:=ι κ e.2) Aw cf (bF _);have bc:Hid (∀f,f=((Z.setCell (Ad (w.heap.size+1) 0) (ι κ e.1)).setCell (Ad (w.heap.size+1) 1) (ι κ e.2)).drew->(f.cell? (Ad (w.heap.size+1) 0)=σ (ι κ e.1)/\f.cell? (Ad (w.heap.size+1) 1)=σ (ι κ e.2))/\δ w.heap.size w f):=au (by rintro f rfl;exact⟨ac.1,aH ac.2⟩);clear ac;clear RF LI zn Aw cf U;go_wp2_with fail;go_region;all_goals (try go_wp2_with fail);have⟨f,R⟩:=nm (((Z.setCell (Ad (w.heap.size+1) 0) (ι κ e.1)).setCell (Ad (w.heap.size+1) 1) (ι κ e.2)).drew);rw[<- R];have⟨⟨D,E⟩,u⟩:=bc.J f R;refine aD (by simp[results,results47,go_sem,D,E];rfl) rfl ?_;exact⟨by rw[ao.J],u⟩
 all_goals refineλd v F X b ⟨(l:d _=_),_⟩=>fV (w':=X) ?_ ⟨rfl,ah _ _⟩;obtain⟨⟨H,I,z2,z3⟩,⟨z4,z5,z6⟩,-⟩:=a0.J X ((aH (ah _ _)).trans b);go_simp
structure Gn (st:qV):Prop where
 tab:∀x∈st.tabs,0<x.2.1.length/\uc x.2.1/\fH x.2.1 x.2.2/\x.2.2.length<=64
 gr:∀u t g tb,fU st.grs (gk u t)=σ g->fU st.tabs (tk t)=σ tb->u.size<=maxLen->t.size<=8->0<g.1.length/\g.1.length<=5/\∀s∈g.1,s<tb.1.length
theorem df.fits{o:uS}{w:ω}{p mt mg:Nat}{X:Nat->Prop}{tl:List (Lit×ij)}{gl:List (Lit×oV)}(d:df o w p mt mg X tl gl):Gn (de tl gl) where
 tab:=λr m=>by
  obtain⟨s,n,rfl⟩:=cI.mp (show r∈tl.map _ from m);have a:=d.tab s n;exact⟨a.c0,a.Fs,a.fit,a.few⟩
 gr:=λF t g C b c l z=>by
  unfold de at b c;simp only at b c;rw[iM]at b c;obtain⟨v,i,rfl⟩:=dU.mp b;obtain⟨D,j,rfl⟩:=dU.mp c;obtain⟨G,A,a,x,y,E,f,e⟩:=d.gr _ (nh i);have u:(8:Nat)<=maxLen:=by unfold maxLen;omega
  obtain⟨rfl,rfl⟩:=OV l (by omega) (by omega) (by omega) a;obtain rfl:=xm d.keys f (nh j);exact⟨e.fit.1,e.fit.2.1,e.fit.2.2.1⟩
theorem aaZ{a:List bu}{b:List (List aB)}(e:mS a)(j:0<a.length)(l:fH a b)(x:b.length<=64):1<(sU a b).length/\(sU a b).length<=1000000000/\(sU a b)[(sU a b).length - 1]?=σ 10:=by
 have r:=yz (yw a) 20 a.length (λf _=>JQ e f);have s:=yz (JO a b) 10000 b.length (λf _=>JR e.1 l f);have u:0<(qT a a.length).length:=(by obtain⟨d,c,rfl⟩:∃d c,a=d::c:=(by cases a with|nil=>simp at j|cons d c=>exact⟨d,c,rfl⟩);unfold qT;rw[aX,List.range_succ_eq_map,iI,aw];have:0<(yw (d::c) 0).length:=(by simp[yw];omega);omega);have v:=e.1;have m:(sU a b).length=(qT a a.length).length+1+(nI a b b.length).length:=by unfold sU;simp;omega
 refine⟨by omega,?_,?_⟩;{unfold qT nI at m;have:a.length*20<=6040:=(by omega);have:b.length*10000<=640000:=(by omega);omega};rw[<- List.getLast?_eq_getElem?];unfold sU;cases b with|nil=>simp[nI]|cons i c=>have n:=yA (cols:=a) (R:=i::c) (r:=c.length) (row:=(i::c)[c.length]'(by simp)) (af _);rw[aX,n,<- bN];exact List.getLast?_concat
theorem Kp{st:qV}(m:Gn st)(D:x.size<=maxLen)(C:r.size<=8){e:aaf}(b:xk st x r=σ e):0<e.1.length/\uc e.1/\fH e.1 e.2/\e.2.length<=64:=by
 unfold xk at b;cases hl:fU st.tabs (tk r)with
 |none=>rw[hl]at b;cases b
 |some d=>
  rw[hl]at b;simp only at b;obtain⟨u,l,v,y⟩:=m.tab _ (nh hl);have n:∀(a:List Nat) (c:List aB->dm),0<a.length->a.length<=5->(∀s∈a,s<d.1.length)->0<(vf a c d).1.length/\uc (vf a c d).1/\fH (vf a c d).1 (vf a c d).2/\(vf a c d).2.length<=64:=λa c i j f=>
   ⟨by unfold vf;rw[aR];exact i,JX l j f,JY v f c,ag (xe _ _ _) y⟩
  split at b;{cases b;exact n _ _ (by rw[dj];exact u) (by rw[dj];exact l.1) (λs A=>dM.mp A)};obtain⟨g,z,rfl⟩:=dU.mp b;obtain⟨i,j,f⟩:=m.gr x r g d z hl D C;exact n _ _ i j f
theorem AG{S:ByteArray}(a:Ic S=true):∃b c,fg S=.inl (.query (b::c))/\nT b.table/\b.pl<=300/\(∀d∈c,yu d)/\(b::c).Pairwise (λd r=>d.pl<=r.pl)/\¬300<S.size:=by
 have n:¬300<S.size:=λf=>by
  unfold Ic fg at a;rw[aF f]at a
  cases a
 unfold Ic at a;split at a;{rename_i s e;obtain⟨b,c,rfl,i,j,l,-,m⟩:=Rq e;exact⟨b,c,e,i,j,l,m,n⟩};cases a
theorem uw{S:ByteArray}{st:qV}{a:eZ}{b:List eZ}(d:fg S=.inl (.query (a::b)))(c:¬300<S.size):oE v st x S=(Bj v st x a.pl a.table b,st):=by rw[CZ c d];rfl
theorem Da{S:ByteArray}{bud:Nat}{st:qV}(s:Gn st)(v:Ic S=true)(z:x.size<=maxLen):C6 (oE bud st x S).1:=by obtain⟨d,G,y,b,n,c,-,u⟩:=AG v;rw[uw y u];simp only;unfold Bj lM;cases hv:xk st x d.table.1 with|none=>(exact .inl ⟨by simp,rfl,by simp,b.2.1⟩)|some a=>simp only;have f:=aiH c;split;{rename_i r;have:=Sn (cols:=a.1) (λe A=>(f e A).2);exact .inl ⟨r,rfl,by simp only;omega,this.2⟩};obtain⟨C,D,E,F⟩:=Kp s z b.1 hv;cases hQ:ng bud d.pl a.1 a.2 (G.map qv)with|inl g=>have:=afa f n hQ;exact .inl ⟨vT hQ,rfl,this.1,this.2⟩|inr e=>unfold ng at hQ;split at hQ;{cases hQ};obtain⟨i,j,l,m⟩:=Ia (Em c) D.few C E F hQ;obtain⟨H,I,K⟩:=aaZ i j l m;exact .inr ⟨rfl,H,I,K,rfl⟩
theorem Db{S user:ByteArray}{bud:Nat}{st:qV}(b:Ic S=true):(oE bud st user S).2=st:=by obtain⟨e,d,c,-,-,-,-,a⟩:=AG b;rw[uw c a]
theorem Wb{b b':Nat}{st:qV}{S:ByteArray}:(oE b st x S).2=(oE b' st x S).2:=by by_cases a:300<S.size;{unfold oE;rw[aF a,aF a]};cases hr:fg S with|inr q=>rw[Ej a hr,Ej a hr]|inl c=>rw[CZ a hr,CZ a hr];cases c<;>rfl
def aT:ByteArray:=⟨#[99,114,101,97,116,101,32,116,32,40,97,32,105,110,116,41]⟩
def bT:ByteArray:=⟨#[108,111,97,100,32,116,32,40,49,41,40,50,41]⟩
def cT:ByteArray:=⟨#[102,114,111,109,32,116]⟩
def AH:List UInt8:=[97,58,105,110,116,10,49,10,50,10]
def st0:qV:=⟨[],[]⟩
def st1:qV:=⟨[(tk ⟨#[116]⟩,([(⟨#[97]⟩,0)],[]))],[]⟩
def st2:qV:=⟨[(tk ⟨#[116]⟩,([(⟨#[97]⟩,0)],[[⟨false,1,⟨#[]⟩⟩],[⟨false,2,⟨#[]⟩⟩]]))],[]⟩
theorem anP:fg aT=.inl (.create (⟨#[116]⟩,7) [((⟨#[97]⟩,10),0)]):=by kernel_rfl
theorem anQ:∃a b c d,fg bT=.inl (.load (⟨#[116]⟩,5) [⟨a,[⟨c,0,false,1,⟨#[]⟩⟩]⟩,⟨b,[⟨d,0,false,2,⟨#[]⟩⟩]⟩]):=⟨7,10,8,11,by kernel_rfl⟩
theorem anR:fg cT=.inl (.query [{ bare fB 0 with table:=(⟨#[116]⟩,5) }]):=by kernel_rfl
theorem ayD:oE 1000 st0 lX aT=(([],0,0),st1):=by rw[CZ (by decide) anP];kernel_rfl
theorem ayE:oE 1000 st1 lX bT=(([],0,0),st2):=by obtain⟨b,c,d,e,a⟩:=anQ;rw[CZ (by decide) a];rfl
theorem ayF:(oE 1000 st2 lX cT).1=(AH,0,0):=by rw[CZ (by decide) anR];kernel_rfl
end
