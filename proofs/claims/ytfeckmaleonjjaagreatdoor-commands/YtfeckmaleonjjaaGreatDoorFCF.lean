import Derived.Test.YtfeckmaleonjjaaGreatDoorFCE
import Derived.Deep.DeepCutAuto
import Derived.Deep.RegionHeld3
set_option maxHeartbeats 0
set_option maxRecDepth 100000
namespace Go.Proofs.YtfeckmaleonjjaaGreatDoor
open Go.World renaming cell?→Ξ
open List renaming length→Λ
open Go.RowKit
open _root_.Go.Proofs.Tryz
open Option renaming some→σ
open Go.IntKind renaming i64→κ
open Go.Ending renaming returned→τ
open Go.Obj renaming cells→ξ
open Go renaming World→ω,Value→υ
open Go.RowKit renaming Below→δ
open Go.Value renaming int→ι,string→θ,slice→ψ,pointer→π,agg→χ
variable{w:ω}{p:υ}{m v:Nat}{x:TypeId}
section
def zg(w w':ω)(r:Ending)(n N:Nat)(z:Option Nat):Prop:=∃(v:υ) (e:Int),r=τ (.tuple #[v,ι κ e])/\(∃a m c,v=ψ a m c)/\(e<0->∃ry,ft w' v ry/\nE n ry/\(Λ ry)<=N/\(0<Λ ry->∀g,v.ownBlock=σ g->z=σ g\/w.heap.size<=g))/\δ w.heap.size w w'
theorem zX(a:ω)(o:Obj):(a.alloc o).drew.heap[a.heap.size]?=σ o:=az a o
theorem V6(a:ω)(o:Obj):a.heap.size<(a.alloc o).drew.heap.size:=aA (zX a o)
variable {b o:Nat} {ns:Δ cz} {cv rv:υ} {cy:Δ bU} {ry:Δ (Δ aF)} {e:Ex} {k:Nat}
theorem XI(hn:sZ w b o ns)(Kh:Ks e)(r:uw w cv rv cy ry)(G6:tS e)(t:rE cy e)(ab:OD ns k e):Calls prog 88 #[π (σ (Ad b o)),χ #[cv,rv],ι κ k] w λc w'=>zg w w' c (Λ cy) (Λ ry) none:=by
 have⟨W,Y⟩:=nm (w.alloc (ξ #[cv,rv] 142));have l:=(zF.start w).new #[cv,rv] 142;rw[<- Y]at l;have HR:=(r.aU l.lo (ae _));have Pv:=ak (λ(wr y:ω) (c:Δ aF) (ad:υ) (hw:δ W.heap.size W wr) (N:δ wr.heap.size wr y) (O:dW wr ad c) (oI:Λ c=Λ cy/\∀a∈c,a.s.size<=1000000000)=>tE e G6 Kh t k y ab (show E1 y b o ns cv ad cy c from
  have p:=hw.trans (N.mono hw.size)
  ⟨(hn.aU l.lo (ae _)).aU p (ae _),((r.hc.aU l.lo (ae _)).aU p (ae _)),aS.aU O N (ae _),⟨oI.1,by have:=r.len.1;omega⟩,oI.2⟩))
 have HW:=ak Y;obtain⟨L,M,rfl⟩:=r.hc.slice;obtain⟨ra,B,rfl⟩:=r.hr.slice;have ag:=r.hr;have ao:=r.len.2;have lj:=(λwr (p:δ W.heap.size W wr)=>(l.call p).box (i:=0) rfl);clear hn r Y G6 t ab Kh;go_in;go_wp2;rw[<- HW.J];go_loopw[8,9] (λal a wr=>∃(f:Nat) (i:Δ (Δ aF)),f<=Λ ry/\a=ι κ f/\Hid (Λ i<=f/\nE (Λ cy) i)/\Hid (vC W.heap.size wr al i)/\Hid (δ W.heap.size W wr)) (λ_ a _=>Λ ry - (intOf a).toNat);case atStart=>exact⟨0,[],aB _,rfl,ak ⟨ae _,λc h=>by cases h⟩,ak (vC.nil _ _),ak (aj _ _)⟩
 case round=>
  obtain⟨f,i,hi,rfl,x,H,v⟩:=hrel;obtain⟨oa,oc,rfl⟩:=H.J.slice;obtain⟨t,oY,-⟩:=lj wr v.J;have q0:Ξ wr (Ad w.heap.size 0)=σ (ψ L (Λ cy) M):=bB t 0;have q1:Ξ wr (Ad w.heap.size 1)=σ (ψ ra (Λ ry) B):=bB t 1;by_cases cK:f<Λ ry
  .have gY:=aX.2 cK;have⟨c,qt⟩:=l9 cK;have⟨m,j,cp,D,E,he,G,ac,C⟩:=ag.got qt;cases he
   have nX:=(l.call v.J).lo;have G:=(nX.cell (p:=Ad m (j+f)) C).trans G;have O:dW wr _ _:=aS.aU ac nX (ae _);have C:=aw C nX.size;have ai:Hid (0<Λ c->∀z n a,Value.slice D (Λ c) E=ψ (σ z) n a->z.block<W.heap.size):=ak (λX z n a e=>by
    obtain⟨g',o',c',e',-,Dj,-⟩:=aS.at ac X;rw[e']at e
    cases e
    exact aw Dj l.lo.size)
   have HE:=(λy N=>Pv.J wr y c _ v.J N O (HR.ok c (aq qt)));go_wp2;go_cut[10,11]from 19 to 31 (λXJ XK d=>∃(V:Nat) (a:aF) (u:Int),XJ=π (σ (Ad V 0))/\XK=ι κ u/\Hid (a.s.size<=1000000000/\d.heap[V]?=σ (ξ #[.bool a.bH,ι κ a.n,θ a.s] 129 (0,0))/\δ wr.heap.size wr d))
   case first=>
    have xW:=(λ(F:ω) (s:δ (wr.alloc (ξ #[.bool false,ι κ 0,θ ⟨#[]⟩] 129)).drew.heap.size (wr.alloc (ξ #[.bool false,ι κ 0,θ ⟨#[]⟩] 129)).drew F)=>And.intro ((s.block wr.heap.size (V6 wr _)).trans (zX wr _)) ((aP ((aj wr.heap.size wr).alloc (ae _) _)).trans (s.mono (by simp))));have hS:(λd=>Ξ d (Ad w.heap.size 0)=σ (ψ L (Λ cy) M)/\Ξ d (Ad w.heap.size 1)=σ (ψ (σ (Ad m j)) (Λ ry) B)/\Ξ d (Ad m (j+f))=σ (ψ D (Λ c) E)) wr.drew:=⟨q0,q1,G⟩;have XL:=(λ(d:ω) (p:δ wr.heap.size wr d)=>(show(λd=>Ξ d (Ad w.heap.size 0)=σ (ψ L (Λ cy) M)/\Ξ d (Ad w.heap.size 1)=σ (ψ (σ (Ad m j)) (Λ ry) B)/\Ξ d (Ad m (j+f))=σ (ψ D (Λ c) E)) d from⟨(p.cell (p:=Ad w.heap.size 0) oY).trans q0,(p.cell (p:=Ad w.heap.size 1) oY).trans q1,(p.cell (p:=Ad m (j+f)) C).trans G⟩));go_region_held3 (λd=>Ξ d (Ad w.heap.size 0)=σ (ψ L (Λ cy) M)/\Ξ d (Ad w.heap.size 1)=σ (ψ (σ (Ad m j)) (Λ ry) B)/\Ξ d (Ad m (j+f))=σ (ψ D (Λ c) E)) (first|assumption|(refine XL _ ?_;first|exact aP (aj _ _)|exact aP ((aj _ _).alloc (ae _) _)|exact g.J|exact g.J.alloc g.J.size _|exact(Cy g.J (ae _) V7.J _ _ _).2)) ((go_at_call 87;(with_reducible refine dM (HE _ (by first|exact aP (aj _ _)|exact aP ((aj _ _).alloc (ae _) _))) ?_);rintro e F ⟨a,u,rfl,Z,s⟩;unfold eB;(first|(have Q:=(xW F s).1;obtain⟨⟨a0,a1,a2⟩,z0,z1,z2,kl⟩:=ni Q;have V7:=ak Q;clear Q)|skip);have Dm:=ak Z;have g:Hid (δ wr.heap.size wr F):=ak (by first|exact(aP (aj _ _)).trans s|exact(xW F s).2);clear s Z));(all_goals(try go_wp2_with fail));(all_goals go_meet);all_goals first
     |exact⟨_,a,u,rfl,rfl,ak ⟨Dm.J,az _ _,g.J.alloc g.J.size _⟩⟩
     |exact⟨_,a,u,rfl,rfl,ak ⟨Dm.J,Cy g.J (ae _) V7.J _ _ _⟩⟩
   case rest=>
    obtain⟨V,a,u,rfl,rfl,HC⟩:=hcut;rename_i wc _ _;have⟨Z,zY,P⟩:=HC.J;obtain⟨⟨v0,v1,v2⟩,-,-,-,mo⟩:=ni zY;have g:=ak (v.J.trans (P.mono v.J.size));have U:=ak (H.J.aU P);obtain⟨t,an,-⟩:=lj _ g.J;have r1:Ξ wc (Ad w.heap.size 1)=σ (ψ (σ (Ad m j)) (Λ ry) B):=bB t 1;have y0:=(P.cell (p:=Ad m (j+f)) C).trans G;by_cases hp:0<=u;{have I:=ak hp;go_wp2;go_ret2;exact⟨_,u,rfl,⟨_,_,_,rfl⟩,λh=>(by have:=I.J;omega),(l.call g.J).lo⟩}
    obtain⟨K,KF⟩|Tg:(a.bH=false/\(a.n==1)=true)\/(a.bH=true\/(a.bH=false/\(a.n==1)=false)):=(by cases a.bH<;>cases(a.n==1)<;>simp)
    .rw[K]at v0
     have⟨us,T⟩:=U.J;have aa:=x.J;go_wp2_with(at_builtin;refine nW (arr:=#[ψ D (Λ c) E]) rfl _ _ 140 rfl (base:=W.heap.size) underlying140 Tryz.zW ⟨rfl,by decide,by decide⟩ (v:=ψ oa (Λ i) oc) (n:=Λ i) (xs:=us) rfl T.2.1 (N:=wc.heap.size) rfl rfl rfl (by simp[Value.oneCell']) (by have:=x.J.1;omega) g.J.size ?_);intro g3 qF w3 h2 h3 h4;have I:=ak (U.J.push g.J g.J.size T (aS.aU O P (ae _)) (λX z n' c' e=>by
      have h5:=ai.J X z n' c' e;intro h6;have:=(T.2.1.lt _ h6).1;omega) h2 h3 h4)
     have R:Hid ((i++[c]).length<=f+1/\nE (Λ cy) (i++[c])):=ak ⟨by rw[au,eC];have:=aa.1;omega,λam A=>by
      rcases bA.1 A with A|A
      . exact aa.2 am A
      . cases bj.1 A;exact HR.ok c (aq qt)⟩
     go_wp2;exact⟨⟨f+1,_,by omega,by go_num,R,ak I.J.1,ak I.J.2⟩,by simp[intOf];omega⟩
    have R:Hid (Λ i<=f+1/\nE (Λ cy) i):=ak ⟨vY x.J.1,x.J.2⟩;rcases Tg with K|⟨K,KF⟩;all_goals rw[K]at v0;go_wp2;exact⟨⟨f+1,_,by omega,by go_num,R,U,g⟩,by simp[intOf];omega⟩
  go_wp2;go_ret2;exact⟨_,-1,rfl,⟨_,_,_,rfl⟩,λ_=>⟨i,H.J.batch,x.J.2,by have:=x.J.1;omega,λ_=>H.J.lo l.lo.size⟩,(l.call v.J).lo⟩
end
section
variable {cv rv uv tv nv ev mv dv:υ} {cy more:Δ bU} {ry KG:Δ (Δ aF)} {st:dz} {ns:Δ cz}
theorem ajr(a:ω)(c:Array υ)(f:TypeId)(d:Array υ)(g:TypeId)(i:Array υ)(j:TypeId){W:ω}(l:W=((a.alloc (ξ c f)).alloc (ξ d g)).alloc (ξ i j)):zF a W [(a.heap.size+1+1,i,j),(a.heap.size+1,d,g),(a.heap.size,c,f)]:=by have:=(Pu a c f d g rfl).new i j;rw[show((a.alloc (ξ c f)).alloc (ξ d g)).heap.size=a.heap.size+1+1 by simp,<- l]at this;exact this
theorem ft.cel{ry:Δ (Δ aF)}(u:ft w p ry){i:Δ aF}{d:aF}(y:ry[m]?=σ i)(l:i[v]?=σ d):∃c f g a q j,p=ψ (σ (Ad c f)) (Λ ry) g/\Ξ w (Ad c (f+m))=σ (ψ (σ (Ad a q)) (Λ i) j)/\(c<w.heap.size/\a<w.heap.size)/\Ξ w (Ad a (q+v*3))=σ (.bool d.bH)/\Ξ w (Ad a (q+v*3+1))=σ (ι κ d.n)/\Ξ w (Ad a (q+v*3+2))=σ (θ d.s):=by obtain⟨c,f,g,H,I,e,A,r,x⟩:=u.got y;obtain⟨a,q,j,s,-,z,-⟩:=aS.at r (bY (aB _) (ah.1 l).1);obtain⟨F,G,E,t,B,C,D⟩:=dW.get r l;cases s;cases t;exact⟨c,f,g,a,q,_,e,A,⟨x,z⟩,B,C,D⟩
theorem abq(I:uw w cv rv cy ry)(K:uw w uv tv more KG)(hs:Kz w ns st nv ev mv dv){room:Int}(h0:0<=room)(h1:room<=5000)(hA:There cy st.left.1)(hB:There more st.right.1):Calls prog 90 #[χ #[cv,rv],χ #[uv,tv],.agg (oB st nv ev mv dv),ι κ room] w λi w'=>∃u c,i=τ u/\ft w' u c/\nE (Λ cy+Λ more) c/\(Λ c)<=5001/\(∀ai,u.ownBlock=σ ai->(none:Option Nat)=σ ai\/w.heap.size<=ai)/\δ w.heap.size w w':=by
 have⟨W,hW⟩:=nm (((w.alloc (ξ #[cv,rv] 142)).alloc (ξ #[uv,tv] 142)).alloc (ξ (oB st nv ev mv dv) 95));have y:=ajr w _ _ _ _ _ _ hW;have HW:=ak hW;obtain⟨ab,ha⟩:=hA;obtain⟨b,R⟩:=hB;have tU:=(aR.1 (show cy.findIdx? (λd=>ct d.1 st.left.1)=σ ab from ha)).1;have mo:=(aR.1 (show more.findIdx? (λd=>ct d.1 st.right.1)=σ b from R)).1;have HA:=ak (pQ cy _ st.left.1 W (I.hc.aU y.lo (ae _)) (by have:=I.len.1;omega));have E6:=ak (λD (hX:δ W.heap.size W D)=>pQ more _ st.right.1 D ((K.hc.aU y.lo (ae _)).aU hX (ae _)) (by have:=K.len.1;omega));rw[show mI cy st.left.1=(ab:Int)by unfold mI;rw[ha]]at HA;rw[show mI more st.right.1=(b:Int)by unfold mI;rw[R]]at E6;obtain⟨ca,cc,rfl⟩:=I.hc.slice;obtain⟨ra,rc,rfl⟩:=I.hr.slice;obtain⟨va,vc,rfl⟩:=K.hc.slice;obtain⟨ta,tc,rfl⟩:=K.hr.slice;obtain⟨na,nc,rfl⟩:=aS.slice hs.bJ;obtain⟨ks,-,j6,-⟩:=hs.fG;obtain⟨ea,ec,rfl⟩:=aS.slice j6;obtain⟨ya,yc,rfl⟩:=aS.slice hs.eY;obtain⟨da,dc,rfl⟩:=aS.slice hs.down;obtain⟨EL,BT⟩:=I.len;obtain⟨bg,bi⟩:=K.len;have lj:=ak (λwr (R:δ W.heap.size W wr)=>(show(Ξ wr (Ad w.heap.size 0)=σ (ψ ca (Λ cy) cc)/\Ξ wr (Ad w.heap.size 1)=σ (ψ ra (Λ ry) rc)/\w.heap.size<wr.heap.size)/\(Ξ wr (Ad (w.heap.size+1) 0)=σ (ψ va (Λ more) vc)/\Ξ wr (Ad (w.heap.size+1) 1)=σ (ψ ta (Λ KG) tc)/\w.heap.size+1<wr.heap.size)/\Ξ wr (Ad (w.heap.size+1+1) 8)=σ (θ st.right.1)/\w.heap.size+1+1<wr.heap.size from by
  obtain⟨h1,z,-⟩:=(y.call R).box (i:=2) rfl;obtain⟨t,H,-⟩:=(y.call R).box (i:=1) rfl;obtain⟨h5,h6,-⟩:=(y.call R).box (i:=0) rfl;exact⟨⟨bB h1 0,bB h1 1,z⟩,⟨bB t 0,bB t 1,H⟩,bB h5 8,h6⟩))
 clear hs hW j6 ha R;unfold oB at HW ⊢;go_in;go_wp2_with fail;rw[<- HW.J];refine HA.J.mono ?_;rintro i w1 ⟨rfl,cI⟩;obtain⟨⟨L,M,Z⟩,⟨N,O,aa⟩,q8,X⟩:=lj.J w1 cI;have td:=(E6.J w1 cI);go_wp2_with fail;refine td.mono ?_;rintro i w2 ⟨rfl,cW⟩;have fM:=ak (cI.trans (cW.mono cI.size));clear cW L M N O q8;go_wp2;go_loopw[11,12] (λu d wr=>∃(V:Nat) (c:Δ (Δ aF)),V<=Λ ry/\d=ι κ V/\Hid (Λ c<=5001/\nE (Λ cy+Λ more) c)/\Hid (vC W.heap.size wr u c)/\Hid (δ W.heap.size W wr)) (λ_ d _=>Λ ry - (intOf d).toNat);case atStart=>exact⟨0,[],aB _,rfl,ak ⟨aB _,λi h=>by cases h⟩,ak (vC.nil _ _),fM⟩
 case round=>
  obtain⟨V,c,hi,rfl,B,p,m⟩:=hrel;obtain⟨oa,oc,rfl⟩:=p.J.slice;obtain⟨⟨L,M,Z⟩,⟨N,O,aa⟩,q8,X⟩:=lj.J wr m.J;by_cases cK:V<Λ ry
  .have gY:(V:Int)<Λ ry:=(by omega);obtain⟨i,qt⟩:=l9 cK;clear L N O q8;go_wp2;go_loopw[11,13] (λu d wx=>∃(k:Nat) (c:Δ (Δ aF)),k<=Λ KG/\d=ι κ k/\Hid (Λ c<=5001/\nE (Λ cy+Λ more) c)/\Hid (vC W.heap.size wx u c)/\Hid (δ W.heap.size W wx)) (λ_ d _=>Λ KG - (intOf d).toNat);(case atStart=>exact⟨0,c,aB _,rfl,B,p,m⟩);case round=>
    clear B p m M Z aa X;obtain⟨k,c,hk,rfl,B,p,m⟩:=hrel;obtain⟨oa,oc,rfl⟩:=p.J.slice;obtain⟨⟨L,M,Z⟩,⟨N,O,aa⟩,-,X⟩:=lj.J wr m.J;obtain⟨wk,OJ⟩:∃g,g=wr:=⟨_,rfl⟩;subst OJ;by_cases TH:k<Λ KG
    .by_cases a7:(Λ c:Int)<=room
     .have aT:(k:Int)<Λ KG:=(by omega);obtain⟨P,By⟩:=l9 TH;have nX:=(y.call m.J).lo;have x:=I.ok i (aq qt);have G:=K.ok P (aq By);obtain⟨g,A⟩:∃g,i[ab]?=σ g:=⟨_,af (by rw[x.1];exact tU)⟩;obtain⟨l,hy⟩:∃l,P[b]?=σ l:=⟨_,af (by rw[G.1];exact mo)⟩;obtain⟨ai,ba,cp,bl,q,cq,T,x0,⟨xg,xp⟩,x1,x2,x3⟩:=(I.hr.aU nX (ae _)).cel qt A;cases T;obtain⟨g',d',a8,p',q',a9,T,y0,⟨yg,yp⟩,y1,y2,y3⟩:=(K.hr.aU nX (ae _)).cel By hy;cases T;have xl:(ab:Int)<Λ i:=(by rw[x.1];omega);have yl:(b:Int)<Λ P:=(by rw[G.1];omega);have aC:=(λD=>wV g l D (x.2 g (aq A)) (G.2 l (aq hy)));have⟨wx,ao⟩:=nm ((wk.alloc (ξ #[.bool g.bH,ι κ g.n,θ g.s] 129)).alloc (ξ #[.bool l.bH,ι κ l.n,θ l.s] 129));obtain⟨n1,n2,n3,n4⟩:=ao ▸ ahE wk (ξ #[.bool g.bH,ι κ g.n,θ g.s] 129) (ξ #[.bool l.bH,ι κ l.n,θ l.s] 129);have al:=ak n3;have an:=ak ao;clear nX A hy n1 n2 n4 n3 ao;have ap:Hid (∀D,δ wk.heap.size wk D->∃(k':Nat) (O':Δ (Δ aF)),k'<=Λ KG/\Value.int κ ((k:Int)+1)=ι κ k'/\Hid (Λ O'<=5001/\nE (Λ cy+Λ more) O')/\Hid (vC W.heap.size D (ψ oa (Λ c) oc) O')/\Hid (δ W.heap.size W D)):=ak (λD hX=>⟨k+1,c,by omega,by go_num,B,ak (p.J.aU hX),ak (m.J.trans (hX.mono m.J.size))⟩);by_cases a3:g.bH=false/\l.bH=false
      .obtain⟨Y,ac⟩:=a3;rw[Y]at x1;rw[ac]at y1;rw[Y,ac]at an;have am:=ak (aC wx);unfold eB at am;rw[Y,ac]at am;go_wp2_with fail;rw[<- an.J];refine am.J.mono ?_;rintro r' Q ⟨rfl,A7⟩;have TI:=ak (al.J.trans (A7.mono al.J.size));have Pz:=ak (m.J.trans (TI.J.mono m.J.size));have⟨od,ax⟩:=nm (Cz g l);rw[<- ax];clear A7 ax x0 x1 x2 x3 y0 y1 y2 y3 L M N O;cases hz:(od==0);{go_wp2;exact⟨ap.J _ TI.J,by simp[intOf];omega⟩}
       go_wp2;go_loopw[16,17] (λu d wz=>∃(f:Nat) (a:Δ aF),f<=Λ cy/\d=ι κ f/\Hid (a=i.take f)/\Hid (ug Q.heap.size 129 3 fD wz u a)/\Hid (δ Q.heap.size Q wz)) (λ_ d _=>Λ cy - (intOf d).toNat);(case atStart=>exact⟨0,[],aB _,rfl,ak rfl,ak (ug.nil _ _ _ _ _),ak (aj _ _)⟩);case round=>
        obtain⟨f,a,hj,rfl,C,v,r⟩:=hrel;obtain⟨la,lc,rfl⟩:=v.J.slice;have E:=ak (Pz.J.trans (r.J.mono Pz.J.size));obtain⟨⟨L,M,Z⟩,⟨N,O,aa⟩,-,X⟩:=lj.J wr E.J;by_cases Gu:f<Λ cy;{have PA:(f:Int)<Λ cy:=(by omega);obtain⟨j,U⟩:∃j,i[f]?=σ j:=⟨_,af (by rw[x.1];exact Gu)⟩;obtain⟨g3,d3,a0,p3,a4,a1,T,x0,⟨a5,a6⟩,x1,x2,x3⟩:=(I.hr.aU (y.call E.J).lo (ae _)).cel qt U;cases T;have a2:(f:Int)<Λ i:=(by rw[x.1];omega);have Ss:Hid (Λ a=f):=ak (by rw[C.J,bZ,x.1];omega);have KI:Hid (a++[j]=i.take (f+1)):=ak (by rw[C.J,bS,U];rfl);obtain⟨i0,px,lB,ll,kV⟩:=gq Tryz.CD;have s:=ak (v.J.asks (arr:=#[.bool j.bH,ι κ j.n,θ j.s]) r.J.size (by rw[Ss.J];omega));clear U;go_wp2_with(at_builtin;refine ef _ rfl _ _ 156 rfl Q.heap.size 129 i0 _ 3 32 underlying156 px lB ll kV rfl (by decide) (ψ la (Λ a) lc) (Λ a) (a.flatMap fD) rfl s.J.1 (Ad wr.heap.size 0) 1 1 (fD j) rfl rfl s.J.2.1 (by simp[fD,Value.oneCell']) s.J.2.2.1 (s.J.2.2.2.1 32 (by decide)) s.J.2.2.2.2 ?_);intro v3 w3 z t H;have F:=ak (v.J.push r.J r.J.size z t);clear z t H;go_wp2;exact⟨⟨f+1,_,by omega,by go_num,KI,ak F.J.1,ak F.J.2⟩,by simp[intOf];omega⟩}
        have ad:Hid (a=i):=ak (by rw[C.J,aQ (by rw[x.1];omega)]);go_wp2;go_loopw[16,18] (λu d wz=>∃(f:Nat) (a:Δ aF),f<=Λ more/\d=ι κ f/\Hid (a=i++P.take f)/\Hid (ug Q.heap.size 129 3 fD wz u a)/\Hid (δ Q.heap.size Q wz)) (λ_ d _=>Λ more - (intOf d).toNat);(case atStart=>exact⟨0,a,aB _,rfl,ak (by rw[ad.J];simp),v,r⟩);case round=>
         clear C ad v r E L M N O Z aa X;obtain⟨f,a,hj,rfl,C,v,r⟩:=hrel;obtain⟨la,lc,rfl⟩:=v.J.slice;have E:=ak (Pz.J.trans (r.J.mono Pz.J.size));obtain⟨⟨L,M,Z⟩,⟨N,O,aa⟩,-,X⟩:=lj.J wr E.J;by_cases Gu:f<Λ more;{have PA:(f:Int)<Λ more:=(by omega);obtain⟨j,U⟩:∃j,P[f]?=σ j:=⟨_,af (by rw[G.1];exact Gu)⟩;obtain⟨g3,d3,a0,p3,a4,a1,T,x0,⟨a5,a6⟩,x1,x2,x3⟩:=(K.hr.aU (y.call E.J).lo (ae _)).cel By U;cases T;have a2:(f:Int)<Λ P:=(by rw[G.1];omega);have Ss:Hid (Λ a<=20000):=ak (by rw[C.J,au,bZ,x.1];omega);have KI:Hid (a++[j]=i++P.take (f+1)):=ak (by rw[C.J,cC,bS,U];rfl);obtain⟨i0,px,lB,ll,kV⟩:=gq Tryz.CD;have s:=ak (v.J.asks (arr:=#[.bool j.bH,ι κ j.n,θ j.s]) r.J.size (by have:=Ss.J;omega));clear U;go_wp2_with(at_builtin;refine ef _ rfl _ _ 156 rfl Q.heap.size 129 i0 _ 3 32 underlying156 px lB ll kV rfl (by decide) (ψ la (Λ a) lc) (Λ a) (a.flatMap fD) rfl s.J.1 (Ad wr.heap.size 0) 1 1 (fD j) rfl rfl s.J.2.1 (by simp[fD,Value.oneCell']) s.J.2.2.1 (s.J.2.2.2.1 32 (by decide)) s.J.2.2.2.2 ?_);intro v3 w3 z t H;have F:=ak (v.J.push r.J r.J.size z t);clear z t H;go_wp2;exact⟨⟨f+1,_,by omega,by go_num,KI,ak F.J.1,ak F.J.2⟩,by simp[intOf];omega⟩}
         have ad:Hid (a=i++P):=ak (by rw[C.J,aQ (by rw[G.1];omega)]);have ar:=ak ((p.J.aU TI.J).aU r.J);obtain⟨us,V8⟩:=ar.J;have Gv:=ak V8;have be:Λ c<=5000:=(by omega)
         clear V8 C;go_wp2_with(at_builtin;refine nW (arr:=#[ψ la (Λ a) lc]) rfl _ _ 140 rfl (base:=W.heap.size) underlying140 Tryz.zW ⟨rfl,by decide,by decide⟩ (v:=ψ oa (Λ c) oc) (n:=Λ c) (xs:=us) rfl Gv.J.2.1 (N:=wr.heap.size) rfl rfl rfl (by simp[Value.oneCell']) (by omega) E.J.size ?_);intro g3 qF w3 z t H;have F:=ak (ar.J.push E.J E.J.size Gv.J (r:=a) v.J.row (λh0 ab n' c' e h6=>by
          obtain⟨bn,h7,h8,-⟩:=p.J;have h9:=(h8.lt _ h6).2;have bd:=TI.J.size;rcases(show World.ownsRow _ _ _ _ _ _ _ from v.J).2 with⟨bb,bc⟩|⟨g',zB,cur,hv,hg,-⟩
          . omega
          . rw[hv]at e
            cases e
            simp only at h9;omega) z t H)
         have FR:Hid ((c++[a]).length<=5001/\nE (Λ cy+Λ more) (c++[a])):=ak ⟨by rw[au,eC];omega,λg A=>by
          rcases bA.1 A with A|A
          . exact B.J.2 g A
          . cases bj.1 A
            rw[ad.J];exact⟨by rw[au,x.1,G.1],λd hc=>(bA.1 hc).elim (x.2 d) (G.2 d)⟩⟩
         clear z t H;go_wp2;exact⟨⟨k+1,_,by omega,by go_num,FR,ak F.J.1,ak F.J.2⟩,by simp[intOf];omega⟩
      have ag:Hid (δ wk.heap.size wk wx):=al;rw[an.J]at ag;obtain Y|⟨Y,ac⟩:g.bH=true\/(g.bH=false/\l.bH=true):=(by cases A:g.bH<;>cases hy:l.bH<;>simp_all);all_goals rw[Y]at x1 ag;(try rw[ac]at y1 ag);go_wp2;exact⟨ap.J _ ag.J,by simp[intOf];omega⟩
     have aT:(k:Int)<Λ KG:=(by omega);go_wp2;exact⟨⟨V+1,_,by omega,by go_num,B,p,m⟩,by simp[intOf];omega⟩
    go_wp2;exact⟨⟨V+1,_,by omega,by go_num,B,p,m⟩,by simp[intOf];omega⟩
  go_wp2;go_ret;exact⟨_,c,rfl,p.J.batch,B.J.2,B.J.1,p.J.lo y.lo.size,(y.call m.J).lo⟩
end
section
variable {cv nv ev mv dv av bv:υ} {cy:Δ bU} {st:dz} {ns:Δ cz} {ra rb:Δ aF}
def anG(w w':ω)(r:Ending):Prop:=∃x:Bool,r=τ (.bool x)/\δ w.heap.size w w'
theorem XP(B:eK w cv cy)(uq:Λ cy<=10000)(f:Kz w ns st nv ev mv dv)(O:dW w av ra)(s:dW w bv rb)(X:Λ ra=Λ cy/\∀c∈ra,c.s.size<=1000000000)(U:Λ rb=Λ cy/\∀c∈rb,c.s.size<=1000000000)(al:∀n∈st.bJ,There cy n.1)(P:Λ st.down=Λ st.bJ):Calls prog 133 #[cv,.agg (oB st nv ev mv dv),av,bv] w λE w'=>anG w w' E:=by
 have⟨W,A⟩:=nm (w.alloc (ξ (oB st nv ev mv dv) 95));have d:=(zF.start w).new (oB st nv ev mv dv) 95;rw[<- A]at d;have H:=ak A;have Z:=(B.aU d.lo (ae _));have HN:=(aS.aU f.bJ d.lo (ae _));have HD:=f.down;have F:=ak X;have u:=ak U;have t:=ak P;obtain⟨ca,cc,rfl⟩:=B.slice;obtain⟨na,nc,rfl⟩:=aS.slice f.bJ;obtain⟨ks,-,T,-⟩:=f.fG;obtain⟨ea,ec,rfl⟩:=aS.slice T;obtain⟨ya,yc,rfl⟩:=aS.slice f.eY;obtain⟨da,dc,rfl⟩:=aS.slice f.down;obtain⟨aa,ac,rfl⟩:=aS.slice O;obtain⟨ba,bc,rfl⟩:=aS.slice s;have Dk:=f.len.1;have D:=ak (λwr (s:δ W.heap.size W wr)=>(d.call s).box (i:=0) rfl);clear B f A T X U P;unfold oB at H D ⊢;go_in;go_wp2;rw[<- H.J];go_loopw[9] (λc wr=>∃a:Nat,a<=Λ st.bJ/\c=ι κ a/\Hid (δ W.heap.size W wr)) (λc _=>Λ st.bJ - (intOf c).toNat);case atStart=>exact⟨0,aB _,rfl,ak (aj _ _)⟩
 case round=>
  obtain⟨a,hi,rfl,i⟩:=hrel;obtain⟨hk,oY,-⟩:=D.J wr i.J;have q4:Ξ wr (Ad w.heap.size 4)=σ (ψ na (Λ st.bJ) nc):=bB hk 4;by_cases v:a<Λ st.bJ
  .have gY:=aX.2 v;have⟨n,I⟩:=l9 v;have⟨ao,an,cp,g,c0,c1⟩:=(show rB wr _ _ from aS.aU HN i.J (ae _)).get I;cases g;have⟨k,M⟩:=al n (aq I);have K:=(aR.1 (show cy.findIdx? (λc=>ct c.1 n.1)=σ k from M)).1;have Y:=ak (pQ cy _ n.1 wr (Z.aU i.J (ae _)) (by omega));rw[show mI cy n.1=(k:Int)by unfold mI;rw[M]]at Y;go_wp21;refine Y.J.mono ?_;rintro E l ⟨rfl,cI⟩;have C:=(i.J.trans (cI.mono i.J.size));have V:=(d.call C).lo;obtain⟨m,Q⟩:∃m,ra[k]?=σ m:=⟨_,af (by rw[F.J.1];exact K)⟩;obtain⟨p,R⟩:∃p,rb[k]?=σ p:=⟨_,af (by rw[u.J.1];exact K)⟩;have⟨g1,d1,p1,g,x0,x1,x2⟩:=dW.get (show dW l _ _ from aS.aU O V (ae _)) Q;cases g;have⟨g2,d2,p2,g,y0,y1,y2⟩:=dW.get (show dW l _ _ from aS.aU s V (ae _)) R;cases g;have ap:(k:Int)<Λ ra:=(by rw[F.J.1];omega);have OI:(k:Int)<Λ rb:=(by rw[u.J.1];omega);have G:=ak (wV m p l.drew (F.J.2 m (aq Q)) (u.J.2 p (aq R)));unfold eB at G;obtain⟨r,ad⟩:∃r,st.down[a]?=σ r:=⟨_,af (by rw[t.J];exact v)⟩;obtain⟨z,x,p3,g,-,ag,am⟩:=aS.at HD (by rw[t.J];omega);cases g;have KJ:(a:Int)<Λ st.down:=(by rw[t.J];omega)
   have ab:=ak (λ(j:ω) (N:δ W.heap.size W j)=>(show Ξ j (Ad w.heap.size 12)=σ (ψ (σ (Ad z x)) (Λ st.down) dc)/\Ξ j (Ad z (x+a))=σ (.bool r)/\w.heap.size<j.heap.size from by
    obtain⟨h1,h2,-⟩:=D.J j N;exact⟨bB h1 12,((d.call N).lo.cell (p:=Ad z (x+a)) ag).trans (am a _ (by rw[bp,ad];rfl)),h2⟩))
   go_wp21;go_region_with(go_at_call 128;(with_reducible refine dM G.J ?_);rintro E w2 ⟨rfl,L⟩;have y:=ak (C.trans ((aP (aj l.heap.size l)).trans L |>.mono C.size));clear L);all_goals
    have⟨od,ai⟩:=nm (Cz m p);rw[<- ai];have⟨ar,m0,Gt⟩:=ab.J w2 y.J;cases r;all_goals
     go_wp2;all_goals first
      |exact⟨⟨a+1,by omega,by go_num,y⟩,by simp[intOf];omega⟩
      | (go_ret
         exact⟨_,rfl,(d.call y.J).lo⟩)
  go_wp2;go_ret;exact⟨_,rfl,(d.call i.J).lo⟩
end
section
variable {cv rv nv ev mv dv av:υ} {cy:Δ bU} {st:dz} {ns:Δ cz} {ra:Δ aF}
def anF(w w':ω)(r:Ending)(n:Nat):Prop:=∃v L,r=τ v/\(Λ L)=n/\(∀c∈L,c.s.size<=1000000000)/\ug w.heap.size 129 3 fD w' v L/\δ w.heap.size w w'
theorem ug.lower{f:Type}{k:Nat}{c:f->Δ υ}{a:Δ f}(d:ug m x k c w p a)(j:v<=m):ug v x k c w p a:=⟨d.1,d.2.elim .inl λ⟨i,g,cur,r,l,s⟩=>.inr ⟨i,g,cur,r,ay j l,s⟩⟩
theorem abv(D:eK w cv cy)(Kf:∃ag n a,rv=ψ ag n a)(uq:Λ cy<=10000)(p:Kz w ns st nv ev mv dv)(C:dW w av ra)(tU:Λ ra=Λ cy/\∀a∈ra,a.s.size<=1000000000)(ai:∀n∈st.bJ,There cy n.1)(Dk:Λ st.bJ<=10000):Calls prog 129 #[χ #[cv,rv],.agg (oB st nv ev mv dv),av] w λam w'=>anF w w' am (Λ st.bJ):=by
 have⟨W,A⟩:=nm ((w.alloc (ξ #[cv,rv] 142)).alloc (ξ (oB st nv ev mv dv) 95));have g:=Pu w _ _ _ _ A;have P:=ak A;have HC:=(D.aU g.lo (ae _));have HN:=(aS.aU p.bJ g.lo (ae _));have M:=(aS.aU C g.lo (ae _));have I:=ak tU;obtain⟨U,V,rfl⟩:=D.slice;obtain⟨va,vn,vc,rfl⟩:=Kf;obtain⟨na,nc,rfl⟩:=aS.slice p.bJ;obtain⟨ks,-,Z,-⟩:=p.fG;obtain⟨ea,ec,rfl⟩:=aS.slice Z;obtain⟨ya,yc,rfl⟩:=aS.slice p.eY;obtain⟨da,dc,rfl⟩:=aS.slice p.down;obtain⟨aa,ac,rfl⟩:=aS.slice C;have lj:=ak (λwr (Y:δ W.heap.size W wr)=>(show Ξ wr (Ad w.heap.size 0)=σ (ψ U (Λ cy) V)/\Ξ wr (Ad (w.heap.size+1) 4)=σ (ψ na (Λ st.bJ) nc)/\w.heap.size<wr.heap.size/\w.heap.size+1<wr.heap.size from by
  obtain⟨h1,v,-⟩:=(g.call Y).box (i:=1) rfl;obtain⟨x,h4,-⟩:=(g.call Y).box (i:=0) rfl;exact⟨bB h1 0,bB x 4,v,h4⟩))
 clear D p A Z C tU;unfold oB at P ⊢;go_in;go_wp2;rw[<- P.J];go_loopw[7,8] (λan a wr=>∃(j:Nat) (d:Δ aF),j<=Λ st.bJ/\a=ι κ j/\Hid (Λ d=j)/\Hid (∀a∈d,a.s.size<=1000000000)/\Hid (ug W.heap.size 129 3 fD wr an d)/\Hid (δ W.heap.size W wr)) (λ_ a _=>Λ st.bJ - (intOf a).toNat);case atStart=>exact⟨0,[],aB _,rfl,ak rfl,ak (λa i=>by cases i),ak (ug.nil _ _ _ _ _),ak (aj _ _)⟩
 case round=>
  obtain⟨j,d,hi,rfl,H,N,K,f⟩:=hrel;obtain⟨la,lc,rfl⟩:=K.J.slice;have⟨q0,q4,ql,aT⟩:=lj.J wr f.J;by_cases R:j<Λ st.bJ
  .have gY:=aX.2 R;have⟨n,Q⟩:=l9 R;have⟨ar,ap,cp,s,c0,c1⟩:=(show rB wr _ _ from aS.aU HN f.J (ae _)).get Q;cases s;have⟨k,X⟩:=ai n (aq Q);have V5:=(aR.1 (show cy.findIdx? (λa=>ct a.1 n.1)=σ k from X)).1;have F:=aP (aj wr.heap.size wr);have ur:=ak (pQ cy _ n.1 wr.drew ((HC.aU f.J (ae _)).aU F (ae _)) (by omega));rw[show mI cy n.1=(k:Int)by unfold mI;rw[X]]at ur;obtain⟨c,E⟩:∃c,ra[k]?=σ c:=⟨_,af (by rw[I.J.1];exact V5)⟩;have⟨m,l,p1,s,x0,x1,x2⟩:=dW.get (show dW wr _ _ from aS.aU M f.J (ae _)) E;cases s;have aC:(k:Int)<Λ ra:=(by rw[I.J.1];omega);obtain⟨gg,dd,ao,s,-,y,-⟩:=aS.at (aS.aU M f.J (ae _)) (bY (aB _) (ah.1 E).1);cases s
   have⟨i0,px,lB,ll,kV⟩:=gq Tryz.CD;have al:=I.J.2 c (aq E);have ab:=ak (λ(t:ω) (B:δ wr.heap.size wr t)=>(show Ξ t (Ad m (l+k*3))=σ (.bool c.bH)/\Ξ t (Ad m (l+k*3+1))=σ (ι κ c.n)/\Ξ t (Ad m (l+k*3+2))=σ (θ c.s)from⟨(B.cell (p:=Ad m (l+k*3)) y).trans x0,(B.cell (p:=Ad m (l+k*3+1)) y).trans x1,(B.cell (p:=Ad m (l+k*3+2)) y).trans x2⟩));have ad:=ak al;go_wp2;go_region_law(first
    | (refine step_append_lies _ rfl (.tmp 16) (.tmp 29) 156 rfl W.heap.size 129 i0 _ 3 32 underlying156 px lB ll kV rfl (by decide) (ψ la (Λ d) lc) (Λ d) (d.flatMap fD) rfl r.J.1 (Ad G.heap.size 0) 1 1 (fD c) rfl rfl r.J.2.1 (by simp[fD,Value.oneCell']) (by decide) r.J.2.2.1 (r.J.2.2.2.1 32 (by decide)) r.J.2.2.2.2 (G.heap.size+1) (by simp) ?_;intro g2 ax w3 v x _ _;have O:=ak (L.J.push z.J z.J.size v x);clear v x)
    | (refine lL rfl 67 _ _ rfl call67 #[ψ U (Λ cy) V,θ n.1] (by first|(simp[Act.eval];done)|(simp[Act.eval,Act.put];done)|rfl) _ (by with_reducible exact ur.J) ?_;rintro e G ⟨rfl,T⟩;refine⟨_,rfl,?_⟩;have u:=F.trans (T.mono F.size);have z:=ak (f.J.trans (u.mono f.J.size));have L:=ak (K.J.aU u);obtain⟨y0,y1,y2⟩:=ab.J G u;have r:=ak (L.J.asks (arr:=#[.bool c.bH,ι κ c.n,θ c.s]) z.J.size (by rw[H.J];omega));clear T u))
   all_goals
    (try go_wp2);refine⟨⟨j+1,d++[c],by omega,by go_num,ak (by simp[H.J]),ak (λa i=>?_),ak O.J.1,ak O.J.2⟩,by simp[intOf];omega⟩;rcases bA.1 i with i|i
    {exact N.J a i};rw[bj.1 i];exact ad.J
  obtain rfl:j=Λ st.bJ:=(by omega);have H7:=(g.call f.J).lo;go_wp2;go_ret;exact⟨_,d,rfl,H.J,N.J,K.J.lower g.lo.size,H7⟩
end
section
variable {rv kv:υ} {ry:Δ (Δ aF)} {ks:Δ aF} {n:Nat}
def atL(w w':ω)(r:Ending)(n:Nat):Prop:=∃i:Int,r=τ (ι κ i)/\(0<=i->i<n)/\-1<=i/\δ w.heap.size w w'
theorem XM(v:ft w rv ry)(H:nE n ry)(u:dW w kv ks)(L:Λ ks<=n)(E:∀c∈ks,c.s.size<=1000000000)(F:Λ ry<=10000/\n<=100000):Calls prog 130 #[rv,kv] w λg I=>atL w I g (Λ ry):=by
 have B:=ak E;obtain⟨ra,rc,rfl⟩:=v.slice;obtain⟨ka,kc,rfl⟩:=aS.slice u;have⟨N,M⟩:=F;go_in;go_wp2;go_loopw[5] (λc wr=>∃f:Nat,f<=Λ ry/\c=ι κ f/\Hid (δ w.heap.size w wr)) (λc _=>Λ ry - (intOf c).toNat);case atStart=>exact⟨0,aB _,rfl,ak (aj _ _)⟩
 case round=>obtain⟨f,Z,rfl,a⟩:=hrel;by_cases s:f<Λ ry;{have D:=aX.2 s;have⟨g,z⟩:=l9 s;have A:=ak z;have j:=ak (H g (aq z));go_wp2;go_loopw[6,7] (λo c K=>∃(d:Nat) (b:Bool),d<=Λ ks/\o=.bool b/\c=ι κ d/\Hid (δ w.heap.size w K)) (λ_ c _=>Λ ks - (intOf c).toNat);(case atStart=>exact⟨0,true,aB _,rfl,rfl,a⟩);case round=>obtain⟨d,b,hj,rfl,rfl,a⟩:=hrel;by_cases r:d<Λ ks;{have O:=aX.2 r;have aa:(d:Int)<Λ g:=(by rw[j.J.1];omega);obtain⟨i,x⟩:∃i,g[d]?=σ i:=⟨_,af (by rw[j.J.1];omega)⟩;have⟨m,y⟩:=l9 r;have⟨V,T,P,ab,q,R,l,x0,⟨xg,xp⟩,x1,x2,x3⟩:=(v.aU a.J (ae _)).cel A.J x;cases l;have⟨X,U,Q,l,y1,y2,y3⟩:=dW.get (show dW wr _ _ from aS.aU u a.J (ae _)) y;cases l;have p:=ak (wV i m wr.drew (j.J.2 i (aq x)) (B.J m (aq y)));unfold eB at p;go_wp21;go_region_with(go_at_call 128;(with_reducible refine dM p.J ?_);rintro e w2 ⟨rfl,t⟩;have C:=ak (a.J.trans ((aP (aj wr.heap.size wr)).trans t |>.mono a.J.size));clear t);all_goals have⟨od,G⟩:=nm (Cz i m);rw[<- G];go_wp2;all_goals exact⟨⟨d+1,_,by omega,rfl,by go_num,C⟩,by simp[intOf];omega⟩};cases b;{go_wp2;exact⟨⟨f+1,by omega,by go_num,a⟩,by simp[intOf];omega⟩};go_wp2;go_ret;exact⟨_,rfl,λ_=>D,by omega,a.J⟩};go_wp2;go_ret;exact⟨_,rfl,λY=>by omega,by omega,a.J⟩
end
def ahL(w w':ω)(r:Ending):Prop:=∃(c:aF) (k:Bool),r=τ (.tuple #[eB c,.bool k])/\c.s.size<=1000000000/\δ w.heap.size w w'
theorem zF.ajv{c:ω}{d:Δ Own}{i:Nat}{v y:υ}(f:zF w c d)(u:d[i]?=σ (m,#[p,v,y],x))(a:aF)(t:a.s.size<=1000000000)(g:Bool):(((((c.setCell (Ad m 0) (.bool a.bH)).setCell (Ad m 1) (ι κ a.n)).setCell (Ad m 2) (θ a.s)).cell? (Ad m 0)=σ (.bool a.bH))/\((((c.setCell (Ad m 0) (.bool a.bH)).setCell (Ad m 1) (ι κ a.n)).setCell (Ad m 2) (θ a.s)).cell? (Ad m 1)=σ (ι κ a.n))/\((((c.setCell (Ad m 0) (.bool a.bH)).setCell (Ad m 1) (ι κ a.n)).setCell (Ad m 2) (θ a.s)).cell? (Ad m 2)=σ (θ a.s)))/\ahL w (((c.setCell (Ad m 0) (.bool a.bH)).setCell (Ad m 1) (ι κ a.n)).setCell (Ad m 2) (θ a.s)) (τ (.tuple #[eB a,.bool g])):=by have⟨r,z,s⟩:=f.box u;have⟨j,l⟩:=Cy f.lo s r (.bool a.bH) (ι κ a.n) (θ a.s);exact⟨(ni j).1,a,g,rfl,t,l⟩
theorem XO(f:rm)(a b:aF)(d:ω)(H:a.s.size<=1000000000)(I:b.s.size<=1000000000):Calls prog 132 #[.agg (rD f).toArray,eB a,eB b] d λs w'=>ahL d w' s:=by
 have⟨W,G⟩:=nm ((((d.alloc (ξ (rD f).toArray 191)).alloc (ξ #[.bool a.bH,ι κ a.n,θ a.s] 129)).alloc (ξ #[.bool b.bH,ι κ b.n,θ b.s] 129)).alloc (ξ #[.bool false,ι κ 0,θ ⟨#[]⟩] 129));have c:=(ajr d (rD f).toArray 191 #[.bool a.bH,ι κ a.n,θ a.s] 129 #[.bool b.bH,ι κ b.n,θ b.s] 129 rfl).new #[.bool false,ι κ 0,θ ⟨#[]⟩] 129;rw[show(((d.alloc (ξ (rD f).toArray 191)).alloc (ξ #[.bool a.bH,ι κ a.n,θ a.s] 129)).alloc (ξ #[.bool b.bH,ι κ b.n,θ b.s] 129)).heap.size=d.heap.size+1+1+1 by simp,<- G]at c;have v:=ak c;have p:=ak G;have m:=ak (λM=>wV b a M I H);have t:=ak H;have u:=ak I;have⟨⟨N,O,P⟩,ac,ad,ag,Q⟩:=ni (c.box (i:=2) rfl).1;obtain⟨⟨R,T,U⟩,-,-,-,V⟩:=ni (c.box (i:=1) rfl).1;have⟨⟨w,x,y⟩,A,B,C,z⟩:=ni (c.box (i:=0) rfl).1;obtain⟨r,ml,-⟩:=c.box (i:=3) rfl;have m2:Ξ W (Ad d.heap.size 2)=σ (θ f.fn):=bB r 2;have m6:Ξ W (Ad d.heap.size 6)=σ (.bool f.fq):=bB r 6;unfold rD at p ⊢;unfold eB at m ⊢;simp only[List.toArray]at p ⊢;go_in;go_wp21;iterate 5
  (go_returns
   (first|refine⟨a,true,rfl,?_,?_⟩|refine⟨b,true,rfl,?_,?_⟩|refine⟨⟨a.bH,wrap64 (a.n+1),a.s⟩,true,rfl,?_,?_⟩|refine⟨⟨false,b.n,b.s⟩,true,rfl,?_,?_⟩|refine⟨⟨true,b.n,b.s⟩,true,rfl,?_,?_⟩|refine⟨⟨false,a.n,a.s⟩,true,rfl,?_,?_⟩)
   . first|exact t.J|exact u.J
   . repeat(first|exact aj _ _|refine gw ?_ (by simp<;>omega) _))
 have D:a.bH=false:=by first|assumption|(simpa using ‹¬a.bH=true›)
 have E:b.bH=false:=by first|assumption|(simpa using ‹¬b.bH=true›)
 have⟨od,Z⟩:=nm (Cz b a);rw[<- Z]at m;rw[D,E]at m p v;rw[<- p.J];refine(m.J W).mono ?_;rintro s K ⟨rfl,X⟩;have c:=v.J.call X;obtain⟨⟨N,O,P⟩,-,-,-,Q⟩:=ni (c.box (i:=2) rfl).1;obtain⟨⟨R,T,U⟩,-,-,-,V⟩:=ni (c.box (i:=1) rfl).1;have⟨⟨w,x,y⟩,A,B,C,z⟩:=ni (c.box (i:=0) rfl).1;obtain⟨r,ml,-⟩:=c.box (i:=3) rfl;have m2:Ξ K (Ad d.heap.size 2)=σ (θ f.fn):=bB r 2;have L:=(Pp ⟨#[43]⟩ a.n b.n K);have aa:=ak D;have ab:=ak E;go_wp21;all_goals first
  | ((with_reducible refine dM L ?_)
     rintro s w2 ⟨n,k,rfl,Y⟩;have F:=(c.call Y);have⟨⟨w,x,y⟩,A,B,C,z⟩:=ni (F.box (i:=0) rfl).1;go_wp2;have⟨⟨i,j,l⟩,g⟩:=F.ajv (i:=0) rfl ⟨false,n,⟨#[]⟩⟩ (aB _) k;refine aE (by simp[results,results132,go_sem,i,j,l];rfl) rfl ?_;exact g)
  | (obtain⟨⟨i,j,l⟩,g⟩:=c.ajv (i:=0) rfl ⟨false,a.n,a.s⟩ t.J true
     refine aE (by simp[results,results132,go_sem,i,j,l];rfl) rfl ?_;exact g)
  | (obtain⟨⟨i,j,l⟩,g⟩:=c.ajv (i:=0) rfl ⟨false,b.n,b.s⟩ u.J true
     refine aE (by simp[results,results132,go_sem,i,j,l];rfl) rfl ?_;exact g)
section
variable {b o:Nat} {ns:Δ cz} {cv rv nv ev mv dv:υ} {cy:Δ bU} {ry:Δ (Δ aF)} {st:dz}
theorem PD(hn:sZ w b o ns)(Kh:∀e∈st.fG,Ks e.1)(B:uw w cv rv cy ry)(Q:Kz w ns st nv ev mv dv)(al:Λ st.fG<=10000)(F:∀e∈st.fG,rE cy e.1):Calls prog 89 #[π (σ (Ad b o)),χ #[cv,rv],.agg (oB st nv ev mv dv)] w λd w'=>zg w w' d (Λ st.fG) (Λ ry) none:=by
 have⟨W,hW⟩:=nm ((w.alloc (ξ #[cv,rv] 142)).alloc (ξ (oB st nv ev mv dv) 95));have u:=Pu w _ _ _ _ hW;have Pv:=ak (λ(wr M:ω) (d:Δ aF) (an:υ) (e:Ex) (k:Nat) (G6:tS e) (Kh:Ks e) (TB:rE cy e) (ar:OD ns k e) (hw:δ W.heap.size W wr) (hX:δ wr.heap.size wr M) (hu:dW wr an d) (oI:Λ d=Λ cy/\∀a∈d,a.s.size<=1000000000)=>tE e G6 Kh TB k M ar (show E1 M b o ns cv an cy d from
  have m:=hw.trans (hX.mono hw.size)
  ⟨(hn.aU u.lo (ae _)).aU m (ae _),((B.hc.aU u.lo (ae _)).aU m (ae _)),aS.aU hu hX (ae _),⟨oI.1,by have:=B.len.1;omega⟩,oI.2⟩))
 have HW:=ak hW;obtain⟨Y,Z,rfl⟩:=B.hc.slice;obtain⟨ra,rc,rfl⟩:=B.hr.slice;obtain⟨na,nc,rfl⟩:=aS.slice Q.bJ;obtain⟨ks,mL,j6,BS⟩:=Q.fG;obtain⟨ea,ec,rfl⟩:=aS.slice j6;obtain⟨ya,yc,rfl⟩:=aS.slice Q.eY;obtain⟨da,dc,rfl⟩:=aS.slice Q.down;have DL:=ak mL;have Dn:=ak F;have ba:=B.len.2;have oY:Λ ks<=10000:=by rw[mL];exact al
 have lj:=ak (λwr (m:δ W.heap.size W wr)=>And.intro ((u.call m).box (i:=1) rfl) ((u.call m).box (i:=0) rfl));clear hn Q hW F mL al;unfold oB at HW lj ⊢;go_in;go_wp2_with fail;rw[<- HW.J];go_loopw[8,9] (λad a wr=>∃(g:Nat) (r:Δ (Δ aF)),g<=Λ ry/\a=ι κ g/\Hid (Λ r=g/\nE (Λ st.fG) r)/\Hid (vC W.heap.size wr ad r)/\Hid (δ W.heap.size W wr)) (λ_ a _=>Λ ry - (intOf a).toNat);case atStart=>exact⟨0,[],aB _,rfl,ak ⟨rfl,λd h=>by cases h⟩,ak (vC.nil _ _),ak (aj _ _)⟩
 case round=>
  obtain⟨g,r,hi,rfl,I,G,H⟩:=hrel;obtain⟨y,a3⟩:∃E,E=wr:=⟨_,rfl⟩;subst a3;obtain⟨oa,oc,rfl⟩:=G.J.slice;obtain⟨⟨F,ab,-⟩,wS,KB,-⟩:=lj.J y H.J;have q0:Ξ y (Ad w.heap.size 0)=σ (ψ Y (Λ cy) Z):=bB F 0;have q1:Ξ y (Ad w.heap.size 1)=σ (ψ ra (Λ ry) rc):=bB F 1;have q5:Ξ y (Ad (w.heap.size+1) 5)=σ (ψ ea (Λ ks) ec):=bB wS 5;clear F wS;by_cases cK:g<Λ ry
  .have gY:(g:Int)<Λ ry:=(by omega);obtain⟨d,qt⟩:∃d,ry[g]?=σ d:=⟨_,af cK⟩;obtain⟨v,s,cp,T,U,he,x0,am,R⟩:=B.hr.got qt;cases he;have nX:=(u.call H.J).lo;have x0:=(nX.cell (p:=Ad v (s+g)) R).trans x0;have HU:Hid (dW y (ψ T (Λ d) U) d):=ak (aS.aU am nX (ae _));have R:=aw R nX.size;have ao:=ak (B.ok d (aq qt));clear nX am qt;go_wp2_with fail;go_loopw[10,11] (λad a c=>∃(f:Nat) (i:Δ aF),f<=Λ ks/\a=ι κ f/\Hid (Λ i=f/\∀a∈i,a.s.size<=1000000000)/\Hid (ug y.heap.size 129 3 fD c ad i)/\Hid (δ y.heap.size y c)) (λ_ a _=>Λ ks - (intOf a).toNat);(case atStart=>exact⟨0,[],aB _,rfl,ak ⟨rfl,λa h=>by cases h⟩,ak (ug.nil _ _ _ _ _),ak (aj _ _)⟩);case round=>
    obtain⟨f,i,hj,rfl,L,zh,j⟩:=hrel;obtain⟨la,lc,rfl⟩:=zh.J.slice;have C:=(H.J.trans (j.J.mono H.J.size));have y0:=(j.J.cell (p:=Ad w.heap.size 0) ab).trans q0;have y1:=(j.J.cell (p:=Ad w.heap.size 1) ab).trans q1;have y2:=(j.J.cell (p:=Ad v (s+g)) R).trans x0;have y3:=(j.J.cell (p:=Ad (w.heap.size+1) 5) KB).trans q5;have Sy:=aw ab j.J.size;have ax:=aw KB j.J.size;have aC:=aw R j.J.size;have ap:Hid (dW wr (ψ T (Λ d) U) d):=ak (aS.aU HU.J j.J (ae _));have ag:=ak (G.J.aU j.J);by_cases Gu:f<Λ ks
    .have PA:(f:Int)<Λ ks:=(by omega);obtain⟨k,XQ⟩:∃k,ks[f]?=σ k:=⟨_,af Gu⟩;obtain⟨e,aa⟩:∃e,st.fG[f]?=σ e:=⟨_,af (by rw[<- DL.J];exact Gu)⟩;have OH:=BS f k e XQ aa;obtain⟨x,t,a7,he,-,sF,Ku⟩:=aS.at j6 (by omega);cases he;have ac:=(u.call C).lo;have y4:Ξ wr (Ad x (t+f))=σ (ι κ k):=(ac.cell (p:=Ad x (t+f)) sF).trans (Ku f _ (by rw[bp,XQ];rfl));have aT:=aw sF ac.size;have HE:=ak (λM hX=>Pv.J wr M d _ e.1 k OH.1 (Kh e (aq aa)) (Dn.J e (aq aa)) OH.2.1 C hX ap.J ao.J);clear XQ aa OH Ku ac q0 q1 q5 x0;go_wp2_with fail;go_cut[12,13]from 28 to 44 (λa4 a5 c=>∃(bb:Nat) (a:aF) (D:Int),a4=π (σ (Ad bb 0))/\a5=ι κ D/\Hid (a.s.size<=1000000000/\c.heap[bb]?=σ (ξ #[.bool a.bH,ι κ a.n,θ a.s] 129 (0,0))/\δ wr.heap.size wr c))
     case first=>
      have xW:=ak (λ(V:ω) (A:δ (wr.alloc (ξ #[.bool false,ι κ 0,θ ⟨#[]⟩] 129)).drew.heap.size (wr.alloc (ξ #[.bool false,ι κ 0,θ ⟨#[]⟩] 129)).drew V)=>And.intro ((A.block wr.heap.size (V6 wr _)).trans (zX wr _)) ((aP ((aj wr.heap.size wr).alloc (ae _) _)).trans (A.mono (by simp))));have hS:(λc=>Ξ c (Ad w.heap.size 0)=σ (ψ Y (Λ cy) Z)/\Ξ c (Ad w.heap.size 1)=σ (ψ (σ (Ad v s)) (Λ ry) rc)/\Ξ c (Ad v (s+g))=σ (ψ T (Λ d) U)/\Ξ c (Ad (w.heap.size+1) 5)=σ (ψ (σ (Ad x t)) (Λ ks) ec)/\Ξ c (Ad x (t+f))=σ (ι κ k)) wr.drew:=⟨y0,y1,y2,y3,y4⟩;have XL:=ak (λ(c:ω) (m:δ wr.heap.size wr c)=>(show(λc=>Ξ c (Ad w.heap.size 0)=σ (ψ Y (Λ cy) Z)/\Ξ c (Ad w.heap.size 1)=σ (ψ (σ (Ad v s)) (Λ ry) rc)/\Ξ c (Ad v (s+g))=σ (ψ T (Λ d) U)/\Ξ c (Ad (w.heap.size+1) 5)=σ (ψ (σ (Ad x t)) (Λ ks) ec)/\Ξ c (Ad x (t+f))=σ (ι κ k)) c from⟨(m.cell (p:=Ad w.heap.size 0) Sy).trans y0,(m.cell (p:=Ad w.heap.size 1) Sy).trans y1,(m.cell (p:=Ad v (s+g)) aC).trans y2,(m.cell (p:=Ad (w.heap.size+1) 5) ax).trans y3,(m.cell (p:=Ad x (t+f)) aT).trans y4⟩));go_region_held3 (λc=>Ξ c (Ad w.heap.size 0)=σ (ψ Y (Λ cy) Z)/\Ξ c (Ad w.heap.size 1)=σ (ψ (σ (Ad v s)) (Λ ry) rc)/\Ξ c (Ad v (s+g))=σ (ψ T (Λ d) U)/\Ξ c (Ad (w.heap.size+1) 5)=σ (ψ (σ (Ad x t)) (Λ ks) ec)/\Ξ c (Ad x (t+f))=σ (ι κ k)) (first|assumption|(refine XL.J _ ?_;first|exact aP (aj _ _)|exact aP ((aj _ _).alloc (ae _) _)|exact l.J|exact l.J.alloc l.J.size _|exact(Cy l.J (ae _) V7.J _ _ _).2)) ((go_at_call 87;(with_reducible refine dM (HE.J _ (by first|exact aP (aj _ _)|exact aP ((aj _ _).alloc (ae _) _))) ?_);rintro e V ⟨a,D,rfl,P,A⟩;unfold eB;(first|(have E5:=(xW.J V A).1;obtain⟨⟨a0,a1,a2⟩,z0,z1,z2,kl⟩:=ni E5;have V7:=ak E5;clear E5)|skip);have X:=ak P;have l:Hid (δ wr.heap.size wr V):=ak (by first|exact(aP (aj _ _)).trans A|exact(xW.J V A).2);clear A P));(all_goals(try go_wp2_with fail));(all_goals go_meet);all_goals first
       |exact⟨_,a,D,rfl,rfl,ak ⟨X.J,az _ _,l.J.alloc l.J.size _⟩⟩
       |exact⟨_,a,D,rfl,rfl,ak ⟨X.J,Cy l.J (ae _) V7.J _ _ _⟩⟩
     case rest=>
      obtain⟨bb,a,D,rfl,rfl,HC⟩:=hcut;rename_i wc _ _;have⟨P,zY,lu⟩:=HC.J;obtain⟨⟨v0,v1,v2⟩,-,-,-,mo⟩:=ni zY;have l:=ak (j.J.trans (lu.mono j.J.size));have ai:=ak (zh.J.aU lu);have LI:=ak (u.call (C.trans (lu.mono C.size))).lo;have X:=ak P;clear zY P lu;by_cases hp:0<=D;{have z:=ak hp;go_wp2_with fail;refine aE (by simp[results,results89,go_sem];rfl) rfl ?_;exact⟨_,D,rfl,⟨_,_,_,rfl⟩,λh=>(by have:=z.J;omega),LI.J⟩}
      obtain⟨i0,px,lB,ll,kV⟩:=gq Tryz.CD
      have K:=ak (ai.J.asks (arr:=#[.bool a.bH,ι κ a.n,θ a.s]) l.J.size (by rw[L.J.1];omega));have KI:Hid ((i++[a]).length=f+1/\∀E∈i++[a],E.s.size<=1000000000):=ak ⟨by rw[au,L.J.1];rfl,λE p=>by
       rcases bA.1 p with p|p
       . exact L.J.2 E p
       . cases bj.1 p;exact X.J⟩
      go_wp2_with(at_builtin;refine ef _ rfl _ _ 156 rfl y.heap.size 129 i0 _ 3 32 underlying156 px lB ll kV rfl (by decide) (ψ la (Λ i) lc) (Λ i) (i.flatMap fD) rfl K.J.1 (Ad wc.heap.size 0) 1 1 (fD a) rfl rfl K.J.2.1 (by simp[fD,Value.oneCell']) K.J.2.2.1 (K.J.2.2.2.1 32 (by decide)) K.J.2.2.2.2 ?_);intro v3 w3 N O h4;have z:=ak (ai.J.push l.J l.J.size N O);clear N O h4;go_wp2_with fail;exact⟨⟨f+1,_,by omega,by go_num,KI,ak z.J.1,ak z.J.2⟩,by simp[intOf];omega⟩
    obtain⟨us,V8⟩:=ag.J
    have Gv:=ak V8;have Ss:Hid (Λ i=Λ st.fG):=ak (by rw[L.J.1,<- DL.J];omega);clear V8;go_wp2_with(at_builtin;refine nW (arr:=#[ψ la (Λ i) lc]) rfl _ _ 140 rfl (base:=W.heap.size) underlying140 Tryz.zW ⟨rfl,by decide,by decide⟩ (v:=ψ oa (Λ r) oc) (n:=Λ r) (xs:=us) rfl Gv.J.2.1 (N:=wr.heap.size) rfl rfl rfl (by simp[Value.oneCell']) (by have:=I.J.1;omega) C.size ?_);intro g3 qF w3 N O h4;have z:=ak (ag.J.push C C.size Gv.J (r:=i) zh.J.row (λh0 a6 n' c' e h6=>by
     obtain⟨bc,h7,h8,-⟩:=G.J;have h9:=(h8.lt _ h6).2;rcases(show World.ownsRow _ _ _ _ _ _ _ from zh.J).2 with⟨a8,a9⟩|⟨g',zB,cur,hv,hg,-⟩
     . omega
     . rw[hv]at e
       cases e
       simp only at h9;omega) N O h4)
    have FR:Hid ((r++[i]).length=g+1/\nE (Λ st.fG) (r++[i])):=ak ⟨by rw[au,I.J.1];rfl,λE p=>by
     rcases bA.1 p with p|p
     . exact I.J.2 E p
     . cases bj.1 p;exact⟨Ss.J,L.J.2⟩⟩
    clear N O h4;go_wp2_with fail;exact⟨⟨g+1,_,by omega,by go_num,FR,ak z.J.1,ak z.J.2⟩,by simp[intOf];omega⟩
  go_wp2_with fail;refine aE (by simp[results,results89,go_sem];rfl) rfl ?_;exact⟨_,-1,rfl,⟨_,_,_,rfl⟩,λ_=>⟨r,G.J.batch,I.J.2,by have:=I.J.1;omega,λ_=>G.J.lo u.lo.size⟩,(u.call H.J).lo⟩
end
