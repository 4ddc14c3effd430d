import Derived.Test.YtfeckmaleonjjaaGreatDoorFCF
import Derived.Test.YtfeckmaleonjjaaGreatDoorFCH
set_option maxHeartbeats 0
set_option maxRecDepth 100000
namespace Go.Proofs.YtfeckmaleonjjaaGreatDoor
open Go.World renaming ownsRow→Φ
open Go.World renaming cell?→Ξ
open Go.Value renaming ownBlock→Ω
open List renaming length→Λ
open Go.RowKit
open _root_.Go.Proofs.Tryz
open Option renaming some→σ,none→ν
open Go.IntKind renaming i64→κ
open Go.Ending renaming returned→τ
open Go.Obj renaming cells→ξ
open Go renaming World→ω,Value→υ
open Go.RowKit renaming Below→δ
open Go.Value renaming int→ι,string→θ,slice→ψ,pointer→π,agg→χ
variable{m y:Nat}{x:Array Bool}{l:ω->Prop}{i:Program}{s:ω}
section
variable {cv rv nv ev mv dv:υ} {cy:Δ bU} {ry:Δ (Δ aF)} {st:dz} {ns:Δ cz}
def H8(W:ω)(n:Nat)(u:υ):Prop:=∃(r:Δ aF) (a:Option Addr) (c:Nat),u=ψ a (Λ r) c/\dW W u r/\(Λ r)=n/\∀c∈r,c.s.size<=1000000000
theorem Wa{W:ω}{n:Nat}:∀us:Δ υ,(∀u∈us,H8 W n u)->∃ry:Δ (Δ aF),Λ ry=Λ us/\nE n ry/\∀(d:Nat) (cs:Δ aF),ry[d]?=σ cs->∃u,us[d]?=σ u/\dW W u cs
 |[],_=>⟨[],rfl,λr e=>(by cases e),λd cs e=>by simp at e⟩
 |u::us,e=>by
   obtain⟨r,a,c,-,s,x,y⟩:=e u (ot ..);have⟨l,A,C,D⟩:=Wa us (λi f=>e i (eT _ f));refine⟨r::l,by simp[A],λi f=>(bV.1 f).elim (λm=>m ▸ ⟨x,y⟩) (C i),λd cs j=>?_⟩
   cases d with
   |zero=>cases j;exact⟨u,rfl,s⟩
   |succ d=>exact D d cs j
def FU(W:ω)(n j:Nat)(us:Δ υ):Prop:=∀(i:Nat) (u:υ),us[i]?=σ u->i=j\/H8 W n u
theorem FU.move{W:ω}{n:Nat}{us:Δ υ}{u:υ}(e:FU W n (m+1) us)(l:us[m]?=σ u):FU W n m (us.set (m+1) u):=λf s d=>by
 by_cases i:f=m
 . exact .inl i
 . rw[bK]at d
   split at d
   . split at d
     . cases d
       rcases e m u l with j|g
       . omega
       . exact .inr g
     . cases d
   . rcases e f s d with j|g
     . omega
     . exact .inr g
theorem FU.fill{W:ω}{n:Nat}{us:Δ υ}{u:υ}(i:FU W n m us)(j:H8 W n u):∀e∈us.set m u,H8 W n e:=λe l=>by
 have⟨s,d⟩:=cB l;rw[bK]at d;split at d
 . split at d
   . cases d;exact j
   . cases d
 . rcases i s e d with f|g
   . exact absurd f.symm ‹_›
   . exact g
theorem LK{W:ω}{g cap:Nat}{us:Δ υ}{t:TypeId}(e:Φ s W.heap.size t 1 (ψ (σ (Ad g 0)) m cap) m us)(f:δ W.heap.size W s)(d:Nat)(u:υ):(s.setCell (Ad g d) u).ownsRow W.heap.size t 1 (ψ (σ (Ad g 0)) m cap) m (us.set d u)/\δ W.heap.size W (s.setCell (Ad g d) u):=⟨(e.stored d u).1,f.setCell (p:=Ad g d) (e.lt g rfl).1 _⟩
theorem tG{d:Array Oper}{s:Exit->Act->ω->Prop}{l:Region.Mode}{S:ω->Prop}{o:Oper}{v:υ}{a:Act}{w:ω}(j:Nat)(C:d[j]?=σ o)(A:S w)(e:wpAnyH i l d s S m (x.setIfInBounds j true) (a.put o.dst v) w)(D:∀w,S w->(execOp a.eval o).run i w=.ok (.value v) w:=by rintro E -;go_simp;with_reducible rfl)(hw:Region.wanted o (yielded d a.tmps)=true:=by simp[Region.wanted,yielded,Act.put])(f:(Region.noSelect d&&Region.free l d x j&&(Region.ready l d x).contains j)=true:=by kernel_rfl)(y:∀c a w,¬s (.panic c) a w:=by exactλ_ _ _ e=>e):wpAnyH i l d s S (m+1) x a w:=by simp only[Bool.and_eq_true]at f;exact wpAnyH_take C f.1.1 f.1.2 f.2 (λc a w e=>absurd e (y c _ w)) (.inl ⟨hw,D⟩) A e
theorem stepG{e:Program}{d:Array Oper}{s:Exit->Act->ω->Prop}{l:Region.Mode}{S:ω->Prop}{i:Nat}{o:Oper}{a:Act}{w:ω}(j:Region.ready l d x=[i])(C:d[i]?=σ o)(D:Region.wanted o (yielded d a.tmps)=true)(f:me e o a.eval w λv w'=>S w'/\wpAnyH e l d s S m (x.setIfInBounds i true) (a.put o.dst v) w'):wpAnyH e l d s S (m+1) x a w:=by refine⟨λA=>(by rw[A]at j;cases j),λE y=>?_⟩;rw[j]at y;obtain rfl:=bj.mp y;unfold wpOp;simp only[C];rw[aN D];exact .inl (f.wp λv w' f=>f)
theorem Nc{b:Nat}{e:TypeId}(d:s.heap[b]?=σ (ξ (oB st nv ev mv dv) e (0,0))):Ξ s (Ad b 0)=σ (θ st.cU)/\Ξ s (Ad b 1)=σ (ι κ st.pl)/\Ξ s (Ad b 2)=σ (θ st.tj.1)/\Ξ s (Ad b 3)=σ (ι κ st.tj.2)/\Ξ s (Ad b 4)=σ nv/\Ξ s (Ad b 5)=σ ev/\Ξ s (Ad b 6)=σ (θ st.left.1)/\Ξ s (Ad b 7)=σ (ι κ st.left.2)/\Ξ s (Ad b 8)=σ (θ st.right.1)/\Ξ s (Ad b 9)=σ (ι κ st.right.2)/\Ξ s (Ad b 10)=σ (ι κ st.eq)/\Ξ s (Ad b 11)=σ mv/\Ξ s (Ad b 12)=σ dv/\Ξ s (Ad b 13)=σ (ι κ st.n):=⟨bB d 0,bB d 1,bB d 2,bB d 3,bB d 4,bB d 5,bB d 6,bB d 7,bB d 8,bB d 9,bB d 10,bB d 11,bB d 12,bB d 13⟩
theorem TJ{w:ω}(V:uw w cv rv cy ry)(O:Kz w ns st nv ev mv dv)(a4:∀n∈st.bJ,There cy n.1)(an:Λ st.down=Λ st.bJ):Calls prog 92 #[χ #[cv,rv],.agg (oB st nv ev mv dv)] w λr w'=>∃v K,r=τ v/\ft w' v K/\nE (Λ cy) K/\(Λ K)=Λ ry/\(∀g,Ω v=σ g->(ν:Option Nat)=σ g\/w.heap.size<=g)/\δ w.heap.size w w':=by
 have⟨W,hW⟩:=nm ((w.alloc (ξ #[cv,rv] 142)).alloc (ξ (oB st nv ev mv dv) 95));have M:=Pu w _ _ _ _ hW;have HW:=ak hW;have HR:=(V.aU M.lo (ae _));have F:=ak (O.aU M.lo (ae _));have ar:=ak an;obtain⟨ca,cc,rfl⟩:=V.hc.slice;obtain⟨ra,X,rfl⟩:=V.hr.slice;obtain⟨na,nc,rfl⟩:=aS.slice O.bJ;obtain⟨ks,-,j6,-⟩:=O.fG;obtain⟨ea,ec,rfl⟩:=aS.slice j6;obtain⟨ya,yc,rfl⟩:=aS.slice O.eY;obtain⟨da,dc,rfl⟩:=aS.slice O.down;have⟨EL,BT⟩:=V.len;have lj:=ak (λwr (N:δ W.heap.size W wr)=>And.intro ((M.call N).box (i:=1) rfl) ((M.call N).box (i:=0) rfl));have V9:=ak (λi (hX:δ W.heap.size W i) (a b:υ) (ra rb:Δ aF) (h1:dW i a ra) (U:dW i b rb) h3 h4=>XP (HR.hc.aU hX (ae _)) EL (F.J.aU hX (ae _)) h1 U h3 h4 a4 ar.J);clear V O hW j6 an;unfold oB at HW lj V9 ⊢;go_in;go_wp2;rw[<- HW.J];go_loopw[5,6] (λv c wr=>∃(e:Nat) (us:Δ υ),e<=Λ ry/\c=ι κ e/\Hid (Λ us=e/\∀u∈us,H8 W (Λ cy) u)/\Hid (Φ wr W.heap.size 156 1 v e us)/\Hid (δ W.heap.size W wr)) (λ_ c _=>Λ ry - (intOf c).toNat);case atStart=>exact⟨0,[],aB _,rfl,ak ⟨rfl,λu h=>by cases h⟩,ak ⟨rfl,.inl ⟨rfl,rfl⟩⟩,ak (aj _ _)⟩
 case round=>
  obtain⟨e,us,hi,rfl,A,Q,D⟩:=hrel;obtain⟨oa,oc,rfl,a3,-⟩:=cR Q.J;obtain⟨⟨j,oY,-⟩,-⟩:=lj.J wr D.J;have q0:Ξ wr (Ad w.heap.size 0)=σ (ψ ca (Λ cy) cc):=bB j 0;have q1:Ξ wr (Ad w.heap.size 1)=σ (ψ ra (Λ ry) X):=bB j 1;by_cases cK:e<Λ ry
  .have gY:=aX.2 cK;have⟨r,qt⟩:=l9 cK;have LJ:=ak (HR.ok r (aq qt));have⟨m,x,a8,H,I,he,z0,ao,Ki⟩:=HR.hr.got qt;cases he;have av:Hid (H8 W (Λ cy) (ψ H (Λ r) I)):=ak ⟨r,H,I,rfl,ao,LJ.J⟩;have HZ:=(λi (hX:δ W.heap.size W i)=>(hX.cell (p:=Ad m (x+e)) Ki).trans z0);obtain⟨wo,a6⟩:∃aa,aa=wr:=⟨_,rfl⟩;subst a6;go_wp2;go_loopw[7] (λc P=>∃k:Nat,k<=e/\c=ι κ k/\Hid (δ wo.heap.size wo P)) (λc _=>(intOf c).toNat);(case atStart=>exact⟨e,ae _,rfl,ak (aj _ _)⟩);case round=>
    obtain⟨k,Sv,rfl,R⟩:=hrel;have y:=(D.J.trans (R.J.mono D.J.size));have ai:=(cO Q.J R.J);obtain⟨⟨j,oY,-⟩,Y,DI,-⟩:=lj.J wr y;have q0:Ξ wr (Ad w.heap.size 0)=σ (ψ ca (Λ cy) cc):=bB j 0;have q1:Ξ wr (Ad w.heap.size 1)=σ (ψ (σ (Ad m x)) (Λ ry) X):=bB j 1;have z1:=HZ wr y;have ax:=ak Y;go_wp2;go_cut[35]from 18 to 34 (λa7 P=>∃b:Bool,a7=.bool b/\(b=true->0<k)/\Hid (δ wo.heap.size wo P))
    (case first=>rename_i Jx Kx a1 a2;by_cases Wb:k=0;{subst Wb;go_quiet(fail);(all_goals(try go_wp2_with fail));(all_goals go_meet);all_goals exact⟨_,rfl,λh=>(by cases h),ak (by repeat(first|exact R.J|refine aP ?_|refine below_drewN ?_ _))⟩};obtain⟨k,rfl⟩:∃k',k=k'+1:=⟨k - 1,by omega⟩;have Y:=ax.J;obtain⟨g,rfl,-⟩:=a3 (by omega);have ag:k<Λ us:=(by rw[A.J.1];omega);have⟨b,ba,bc,G,N,am⟩:=A.J.2 _ (ej ag);have y0:Ξ wr (Ad g k)=σ (ψ ba (Λ b) bc):=(by rw[ai.cellAt k (by omega),af ag,G]);rw[G]at N;have qZ:=aP (aj wr.heap.size wr);have aC:=(V9.J wr.drew (y.trans (qZ.mono y.size)) _ _ r b (aS.aU ao (y.trans (qZ.mono y.size)) (ae _)) (aS.aU N (y.trans (qZ.mono y.size)) (ae _)) LJ.J am);have aT:(k:Int)<e:=(by omega);have A8:¬(k:Int)<0:=(by omega);have bb:wrap64 ((k:Int)+1 - 1)=k:=(by unfold wrap64;omega);have a0:IntKind.i64.wrap (k:Int)=k:=(by rw[nL];omega);have a9:((0:Int)<(k:Int)+1)=True:=eq_true (by omega);rw[show((k+1:Nat):Int)=(k:Int)+1 by omega];clear ag G N am;have TK:m<wr.heap.size:=aw Ki y.size;have Kj:g<wr.heap.size:=(ai.lt g rfl).2;have f:(λi:ω=>i.heap[w.heap.size]?=σ (ξ #[ψ ca (Λ cy) cc,ψ (σ (Ad m x)) (Λ ry) X] 142 (0,0))/\i.heap[w.heap.size+1]?=σ (ξ (oB st (ψ na (Λ st.bJ) nc) (ψ ea (Λ ks) ec) (ψ ya (Λ st.eY) yc) (ψ da (Λ st.down) dc)) 95 (0,0))/\Ξ i (Ad m (x+e))=σ (ψ H (Λ r) I)/\Ξ i (Ad g k)=σ (ψ ba (Λ b) bc)) wr.drew:=⟨j,Y,z1,y0⟩;have DH:prog.follows .mixedOrders=true:=(by kernel_rfl);refine wp_region_noPanic ?_;refine nQ (S:=λi:ω=>i.heap[w.heap.size]?=σ (ξ #[ψ ca (Λ cy) cc,ψ (σ (Ad m x)) (Λ ry) X] 142 (0,0))/\i.heap[w.heap.size+1]?=σ (ξ (oB st (ψ na (Λ st.bJ) nc) (ψ ea (Λ ks) ec) (ψ ya (Λ st.eY) yc) (ψ da (Λ st.down) dc)) 95 (0,0))/\Ξ i (Ad m (x+e))=σ (ψ H (Λ r) I)/\Ξ i (Ad g k)=σ (ψ ba (Λ b) bc)) DH ?_;refine tG 0 rfl f ?_ (hw:=by rfl);refine tG 1 rfl f ?_ (hw:=by rfl);refine tG 2 rfl f ?_ (hw:=by rfl);refine tG 3 rfl f ?_;refine tG 4 rfl f ?_ (by rintro Z ⟨g1,-⟩;have q0:=bB g1 0;go_simp;with_reducible rfl);refine tG 5 rfl f ?_ (by rintro Z ⟨-,g2,-⟩;obtain⟨s0,s1,s2,s3,s4,s5,s6,s7,s8,s9,XJ,XK,bd,be⟩:=Nc g2;go_simp;with_reducible rfl);refine tG 6 rfl f ?_;refine tG 7 rfl f ?_ (by rintro Z ⟨g1,-⟩;have q1:=bB g1 1;go_simp;with_reducible rfl);refine tG 8 rfl f ?_;refine tG 9 rfl f ?_;refine tG 10 rfl f ?_ (by rintro Z ⟨-,-,z1,-⟩;go_simp;with_reducible rfl);refine tG 11 rfl f ?_;refine tG 12 rfl f ?_;refine tG 13 rfl f ?_;refine tG 14 rfl f ?_ (by rintro Z -;go_simp;(try simp only[a0,Int.toNat_natCast]);(try rw[aN ⟨Int.natCast_nonneg _,aT⟩]);with_reducible rfl);refine tG 15 rfl f ?_ (by rintro Z ⟨-,-,-,y0⟩;go_simp;with_reducible rfl);refine stepG (i:=16) (by kernel_rfl) rfl (by simp[Region.wanted,yielded,Act.put]) (jS rfl rfl call133 (by simp[Act.eval,Act.put]) aC ?_);rintro T w2 ⟨b2,rfl,s⟩;have ap:=(qZ.trans s);have fM:=ak (R.J.trans (ap.mono R.J.size));refine⟨_,rfl,⟨(s.block _ oY).trans j,(s.block _ DI).trans Y,(s.cell (p:=Ad m (x+e)) TK).trans z1,(s.cell (p:=Ad g k) Kj).trans y0⟩,?_⟩;refine tG 17 rfl ⟨(s.block _ oY).trans j,(s.block _ DI).trans Y,(s.cell (p:=Ad m (x+e)) TK).trans z1,(s.cell (p:=Ad g k) Kj).trans y0⟩ ?_;refine wpAnyH_done (by kernel_rfl) (NoPanic.normal ?_) _;simp only[Act.put];go_simp;refine a2 _ _ (Met.intro (a1 _ _ ?_));(repeat apply Exists.intro);refine⟨?rel,rfl⟩;exact⟨_,rfl,λ_=>Nat.succ_pos _,fM⟩);case rest=>
     obtain⟨b,rfl,zY,ac⟩:=hcut;rename_i wc _ _;have ab:=(D.J.trans (ac.J.mono D.J.size));have al:=(cO Q.J ac.J);cases b
     .go_wp2_with(at_builtin;refine nW (arr:=#[ψ ν 0 0]) rfl _ _ 140 rfl (base:=W.heap.size) underlying140 Tryz.zW ⟨rfl,by decide,by decide⟩ (v:=ψ oa e oc) (n:=e) (xs:=us) rfl al (N:=wc.heap.size) rfl rfl rfl (by simp[Value.oneCell']) (by omega) ab.size ?_)
      intro g cap w3 U h3 h4;have r7:Hid (δ W.heap.size W w3):=ak ((ab.alloc ab.size _).grown h3 (by simp;have:=ab.size;omega) (λk j=>(al.lt k j).1));have FR:=ak U;have HH:Hid ((us++[Value.slice ν 0 0]).length=e+1/\FU W (Λ cy) e (us++[ψ ν 0 0])):=ak ⟨by simp[A.J.1],λd aa hx=>by
       by_cases hj:d<Λ us
       . rw[bF hj]at hx
         exact .inr (A.J.2 aa (aq hx))
       . have:=(ah.1 hx).1
         simp at this;have:=A.J.1;exact .inl (by omega)⟩
      go_wp2;go_loopw[8] (λc P=>∃(d:Nat) (l:Δ υ),k<=d/\d<=e/\c=ι κ d/\Hid (Λ l=e+1/\FU W (Λ cy) d l)/\Hid (Φ P W.heap.size 156 1 (ψ (σ (Ad g 0)) (e+1) cap) (e+1) l)/\Hid (δ W.heap.size W P)) (λc _=>(intOf c).toNat);(case atStart=>exact⟨e,_,Sv,ae _,by go_num,HH,FR,r7⟩);case round=>obtain⟨d,l,XQ,EV,rfl,C,E,XR⟩:=hrel;by_cases hj:k<d;{obtain⟨d,rfl⟩:∃j',d=j'+1:=⟨d - 1,by omega⟩;obtain⟨u,G⟩:∃u,l[d]?=σ u:=⟨_,af (by rw[C.J.1];omega)⟩;obtain⟨u2,XS⟩:∃u,l[d+1]?=σ u:=⟨_,af (by rw[C.J.1];omega)⟩;have y0:Ξ wr (Ad g d)=σ u:=(E.J.cellAt d (by omega)).trans G;have y1:Ξ wr (Ad g (d+1))=σ u2:=(E.J.cellAt (d+1) (by omega)).trans XS;have y2:=E.J.frozenAt (d+1);have F:=ak (LK E.J XR.J (d+1) u);have ad:Hid ((l.set (d+1) u).length=e+1/\FU W (Λ cy) d (l.set (d+1) u)):=ak ⟨by rw[eP];exact C.J.1,C.J.2.move G⟩;have a5:∃a n c,u=ψ a n c:=(by rcases C.J.2 d u G with T|⟨r',a',c',T,-⟩;{omega};exact⟨a',_,c',T⟩);obtain⟨a',n',c',rfl⟩:=a5;go_wp2;exact⟨⟨d,_,by omega,by omega,by go_num,ad,ak F.J.1,ak F.J.2⟩,by simp[intOf]<;>omega⟩};obtain rfl:d=k:=(by omega);obtain⟨⟨j,oY,-⟩,-⟩:=lj.J wr XR.J;have q1:Ξ wr (Ad w.heap.size 1)=σ (ψ (σ (Ad m x)) (Λ ry) X):=bB j 1;have z1:=HZ wr XR.J;obtain⟨u2,XS⟩:∃u,l[d]?=σ u:=⟨_,af (by rw[C.J.1];omega)⟩;have y1:Ξ wr (Ad g d)=σ u2:=(E.J.cellAt d (by omega)).trans XS;have y2:=E.J.frozenAt d;have F:=ak (LK E.J XR.J d (ψ H (Λ r) I));have ad:Hid ((l.set d (ψ H (Λ r) I)).length=e+1/\∀aa∈l.set d (ψ H (Λ r) I),H8 W (Λ cy) aa):=ak ⟨by rw[eP];exact C.J.1,C.J.2.fill av.J⟩;go_wp2;exact⟨⟨e+1,_,by omega,by go_num,ad,ak F.J.1,ak F.J.2⟩,by simp[intOf];omega⟩
     go_wp2;have:=zY rfl;exact⟨⟨k - 1,by omega,by go_num,ac⟩,by simp[intOf];omega⟩
  obtain rfl:e=Λ ry:=(by omega);have H7:=(M.call D.J).lo;have⟨K,o1,o2,o3⟩:=Wa us A.J.2;have HO:=(show ft wr (ψ oa (Λ ry) oc) K from⟨us,by rw[o1,A.J.1];exact aS.dE Q.J,λd cs hj=>by obtain⟨u,h1,U⟩:=o3 d cs hj;exact⟨u,h1,aS.aU U D.J (ae _)⟩⟩);have LG:=(And.intro o1 o2);go_wp2;go_ret;exact⟨_,K,rfl,HO,LG.2,LG.1.trans A.J.1,λg T=>.inr (ay M.lo.size (Q.J.lt g T).1),H7⟩
end
def atP(B n:Nat)(w:ω)(v u:υ):Prop:=∃r,ug B 129 3 fD w u r/\(Λ r)=n/\(∀c∈r,c.s.size<=1000000000)/\(Ω u)≠Ω v
structure yj (B n:Nat)(w:ω)(v:υ)(us:Δ υ):Prop where
 own:Φ w B 156 1 v (Λ us) us
 all:∀u∈us,atP B n w v u
 ap:us.Pairwise λa b=>Ω a≠Ω b
section
variable {B n:Nat} {w w0 w' W:ω} {v u k:υ} {us:Δ υ} {r:Δ aF}
theorem yj.nil(B n:Nat)(w:ω):yj B n w (ψ ν 0 0) []:=⟨⟨rfl,.inl ⟨rfl,rfl⟩⟩,λu d=>(by cases d),.nil⟩
theorem yj.aU(d:yj B n w v us)(e:δ w.heap.size w w'):yj B n w' v us:=⟨cO d.own e,λu j=>by obtain⟨r,f,i⟩:=d.all u j;exact⟨r,f.aU e,i⟩,d.ap⟩
theorem yj.batch(d:yj B n w v us):∃ry,ft w v ry/\nE n ry/\(Λ ry)=Λ us:=by
 have⟨i,e,l,m⟩:=Wa (W:=w) (n:=n) us (λu s=>by
  obtain⟨r,f,x,y,-⟩:=d.all u s;have⟨a,c,j⟩:=f.slice;exact⟨r,a,c,j,f.row,x,y⟩)
 exact⟨i,⟨us,by rw[e];exact aS.dE d.own,m⟩,l,e⟩
theorem LL(c:aF):∀(r:Δ aF) (p:Nat),p<Λ r->(((r.flatMap fD).set (p*3) (.bool c.bH)).set (p*3+1) (ι κ c.n)).set (p*3+2) (θ c.s)=(r.set p c).flatMap fD
 |[],_,h=>absurd h (by simp)
 |x::r,0,_=>by simp[fD]
 |x::r,p+1,h=>by
   have:=LL c r p (by simpa using h);rw[show(p+1)*3=p*3+3 by omega];simp only[List.flatMap_cons,fD,List.cons_append,List.nil_append,List.set_cons_succ];rw[this]
theorem ug.block{t:TypeId}(e:ug B t 3 fD w u r)(i:0<Λ r):∃g cap,u=ψ (σ (Ad g 0)) (Λ r) cap/\B<=g/\g<w.heap.size:=by obtain⟨a,cap,d,f,-⟩:=cR e;obtain⟨g,rfl,j⟩:=f i;exact⟨g,cap,d,j,(e.lt g (by rw[d];rfl)).2⟩
theorem yj.put(f:yj B n w v us)(Q:δ B W w){i p g cap:Nat}(A:us[i]?=σ (ψ (σ (Ad g 0)) n cap))(T:p<n)(c:aF)(R:c.s.size<=1000000000):yj B n (((w.setCell (Ad g (p*3)) (.bool c.bH)).setCell (Ad g (p*3+1)) (ι κ c.n)).setCell (Ad g (p*3+2)) (θ c.s)) v us/\δ B W (((w.setCell (Ad g (p*3)) (.bool c.bH)).setCell (Ad g (p*3+1)) (ι κ c.n)).setCell (Ad g (p*3+2)) (θ c.s)):=by
 have⟨r,D,N,O,E⟩:=f.all _ (aq A);subst N;have x:=(gR D g rfl).1;have I:∀{d:TypeId} {z K:Nat} {e:υ} {xs:Δ υ},Φ w B d z e K xs->Ω e≠σ g->(((w.setCell (Ad g (p*3)) (.bool c.bH)).setCell (Ad g (p*3+1)) (ι κ c.n)).setCell (Ad g (p*3+2)) (θ c.s)).ownsRow B d z e K xs:=λP s=>bO (bO (bO P s _) s _) s _;refine⟨⟨I f.own (λd=>E d.symm),λe j=>?_,f.ap⟩,((Q.setCell (p:=Ad g (p*3)) x _).setCell (p:=Ad g (p*3+1)) x _).setCell (p:=Ad g (p*3+2)) x _⟩;by_cases d:Ω e=σ g
 .have⟨m,y⟩:=cB j;have M:i=m:=by
   have⟨F,C⟩:=ah.1 A;have⟨G,H⟩:=ah.1 y;rcases vZ i m with l|l|l
   {have:=iV.1 f.ap i m F G l;rw[C,H]at this;exact absurd d.symm this};{exact l};have:=iV.1 f.ap m i G F l;rw[C,H]at this;exact absurd d this
  subst M;rw[A]at y;cases y;refine⟨r.set p c,?_,by simp,λe j=>?_,E⟩;{unfold ug;rw[eP,<- LL c r p T];exact(((D.stored (p*3) _).1.stored (p*3+1) _).1.stored (p*3+2) _).1};rcases iW j with j|rfl;{exact O e j};exact R
 have⟨X,U,V⟩:=f.all e j;exact⟨X,I U d,V⟩
theorem yj.got{i p:Nat}(x:yj B n w (ψ (σ (Ad m 0)) (Λ us) y) us)(s:i<Λ us)(A:p<n):∃(d e:Nat) (j:aF),us[i]?=σ (ψ (σ (Ad d 0)) n e)/\Ξ w (Ad m i)=σ (ψ (σ (Ad d 0)) n e)/\j.s.size<=1000000000/\Ξ w (Ad d (p*3))=σ (.bool j.bH)/\Ξ w (Ad d (p*3+1))=σ (ι κ j.n)/\Ξ w (Ad d (p*3+2))=σ (θ j.s)/\(B<=d/\d<w.heap.size)/\∀q,w.frozen? (Ad d q)=false:=by have⟨r,f,D,E,N⟩:=x.all _ (ej s);subst D;have⟨d,e,l,F⟩:=ug.block f (by omega);rw[l]at f;have⟨M,O,K,C,G,H,I⟩:=dW.get (show dW w _ r from f.row) (af A);cases C;exact⟨d,e,r[p],by rw[af s,l],by rw[x.own.cellAt i (by omega),af s,l],E _ (ej A),by simpa using G,by simpa using H,by simpa using I,F,λq=>World.ownsRow.frozenAt f q⟩
theorem yj.push(l:yj B n w0 v us)(f:δ w0.heap.size w0 w)(N:δ B W w)(C:B<=w0.heap.size)(D:ug w0.heap.size 129 3 fD w k r)(y:Λ r=n/\∀c∈r,c.s.size<=1000000000)(P:0<n){g cap:Nat}{ob:Obj}(M:Φ w' B 156 1 (ψ (σ (Ad g 0)) (Λ us+1) cap) (Λ us+1) (us++[k]))(s:(w.alloc ob).grownBy w' (Ω v))(e:Ω v=σ g\/w.heap.size+1<=g):yj B n w' (ψ (σ (Ad g 0)) (Λ us+1) cap) (us++[k])/\δ B W w':=by
 have U:=f.size;have⟨y,Q⟩:=y;subst y;obtain⟨gk,V,rfl,Y,X⟩:=ug.block D P;have E:∀j∈us,∃b,Ω j=σ b/\b<w0.heap.size:=λj i=>by
  obtain⟨I,A,G,-⟩:=l.all j i;obtain⟨b,c,rfl,-,f⟩:=ug.block A (by omega);exact⟨b,rfl,f⟩
 have F:Ω v≠σ gk:=λd=>by have:=(l.own.lt gk d).2;omega
 refine⟨⟨by rw[au];exact M,λj i=>?_,jG.2 ⟨l.ap,nK _ _,λa O b f=>?_⟩⟩,(N.alloc (ay C U) _).grown s (by simp;omega) (λb f=>(l.own.lt b f).1)⟩
 .rcases bA.1 i with i|i
  .have⟨I,A,G,T,H⟩:=l.all j i;have⟨b,m,K⟩:=E j i;refine⟨I,eG (pV (A.aU f) ob) s (λR x d=>H (d.trans x.symm)),G,T,?_⟩;rw[m];intro d;have:b=g:=bh d;rcases e with e|e
   {exact H (by rw[m,e,this])};omega
  rw[bj.1 i];refine⟨r,jR (eG (pV D ob) s (λR x d=>F (by rw[x,<- d];rfl))) C,rfl,Q,?_⟩;intro d;have:gk=g:=bh d;rcases e with e|e
  {exact F (by rw[e,this])};omega
 rw[bj.1 f];have⟨b,m,K⟩:=E a O;rw[m];intro d;have:b=gk:=bh d;omega
end
theorem abA{e:Program}{d:Array Oper}{s:Exit->Act->ω->Prop}{l:Region.Mode}{S:ω->Prop}{i j:Nat}{o q:Oper}{a:Act}{w:ω}(A:Region.ready l d x=[i,j])(F:d[i]?=σ o)(G:d[j]?=σ q)(C:o.guard=ν/\q.guard=ν)(f:me e o a.eval w λv w'=>S w'/\wpAnyH e l d s S m (x.setIfInBounds i true) (a.put o.dst v) w')(D:me e q a.eval w λv w'=>S w'/\wpAnyH e l d s S m (x.setIfInBounds j true) (a.put q.dst v) w'):wpAnyH e l d s S (m+1) x a w:=by
 refine⟨λE=>(by rw[E]at A;cases A),λk y=>?_⟩;rw[A]at y;simp only[List.mem_cons,List.not_mem_nil,or_false]at y;rcases y with rfl|rfl
 {unfold wpOp;simp only[F];rw[aN (by simp[Region.wanted,C.1])];exact .inl (f.wp λv w' f=>f)};unfold wpOp;simp only[G];rw[aN (by simp[Region.wanted,C.2])];exact .inl (D.wp λv w' f=>f)
section
variable {cv rv nv ev mv dv:υ} {cy:Δ bU} {ry:Δ (Δ aF)} {st:dz} {ns:Δ cz}
theorem KL{w:ω}(hr:uw w cv rv cy ry)(hs:Kz w ns st nv ev mv dv)(cN:∀n∈st.bJ,There cy n.1)(cx:∀y∈st.eY,y.fq=false->There cy y.ov.1)(d2:0<Λ st.eY)(Dk:Λ st.bJ<=10000)(Gt:Λ st.eY<=10000):Calls prog 91 #[χ #[cv,rv],.agg (oB st nv ev mv dv)] w λr w'=>zg w w' r (Λ st.bJ+Λ st.eY) (Λ ry) ν:=by
 have⟨W,hW⟩:=nm ((w.alloc (ξ #[cv,rv] 142)).alloc (ξ (oB st nv ev mv dv) 95));have fZ:=Pu w _ _ _ _ hW;have HW:=ak hW;have HR:=(hr.aU fZ.lo (ae _));have HS:=(hs.aU fZ.lo (ae _));obtain⟨ca,cc,rfl⟩:=hr.hc.slice;obtain⟨ra,rc,rfl⟩:=hr.hr.slice;obtain⟨na,nc,rfl⟩:=aS.slice hs.bJ;obtain⟨ks,-,j6,-⟩:=hs.fG;obtain⟨ea,ec,rfl⟩:=aS.slice j6;obtain⟨ya,yc,rfl⟩:=aS.slice hs.eY;obtain⟨da,dc,rfl⟩:=aS.slice hs.down;have⟨EL,BT⟩:=hr.len;have lj:=ak (λwr (hb:δ W.heap.size W wr)=>And.intro ((fZ.call hb).box (i:=1) rfl) ((fZ.call hb).box (i:=0) rfl));have bg:=ak (λd (j:δ W.heap.size W d) (a:υ) (r:Δ aF) (h1:dW d a r) Q=>abv (HR.hc.aU j (ae _)) ⟨ra,Λ ry,rc,rfl⟩ EL (HS.aU j (ae _)) h1 Q cN Dk);have DH:prog.follows .mixedOrders=true:=by kernel_rfl
 obtain⟨aa,hN⟩:∃aa,aa=Λ st.bJ+Λ st.eY:=⟨_,rfl⟩;have HN:=ak hN;rw[<- hN];clear hr hs hW j6 hN;unfold oB at HW lj bg ⊢;go_in;go_wp2;rw[<- HW.J];go_loopw[6,7] (λv c wr=>∃(P:Nat) (us:Δ υ),P<=Λ ry/\c=ι κ P/\Hid (Λ us<=P/\yj W.heap.size aa wr v us)/\Hid (δ W.heap.size W wr)) (λ_ c _=>Λ ry - (intOf c).toNat);case atStart=>exact⟨0,[],aB _,rfl,ak ⟨aB _,yj.nil _ _ _⟩,ak (aj _ _)⟩
 case round=>
  obtain⟨P,us,hi,rfl,Gv,O⟩:=hrel;obtain⟨oa,oc,rfl,b4,-⟩:=cR Gv.J.2.own;obtain⟨⟨hk,oY,-⟩,wS,DI,-⟩:=lj.J wr O.J;have q1:Ξ wr (Ad w.heap.size 1)=σ (ψ ra (Λ ry) rc):=bB hk 1;have ce:=ak b4;have ad:=ak hk;have ax:=ak wS;clear hk wS b4;by_cases cK:P<Λ ry
  .have gY:=aX.2 cK;have⟨r,qt⟩:=l9 cK;have BV:=ak qt;have LJ:=ak (HR.ok r (aq qt));have⟨X,d0,c9,xa,xc,he,z0,b7,Ki⟩:=HR.hr.got qt;cases he;have HX:=ak b7;have HZ:=ak (λd (j:δ W.heap.size W d)=>(j.cell (p:=Ad X (d0+P)) Ki).trans z0);have a8:=ak Ki;obtain⟨C,cS⟩:∃s,s=wr:=⟨_,rfl⟩;subst cS;have D:=aP (aj C.heap.size C);have be:=ak (bg.J C.drew (O.J.trans (D.mono O.J.size)) _ r (aS.aU HX.J (O.J.trans (D.mono O.J.size)) (ae _)) LJ.J);have z1:=HZ.J C O.J;have a1:=ak z1;have b9:=ak D;have TK:X<C.heap.size:=aw a8.J O.J.size;clear qt z0 b7 Ki z1 D;go_wp2;have f:(λd:ω=>d.heap[w.heap.size]?=σ (ξ #[ψ ca (Λ cy) cc,ψ (σ (Ad X d0)) (Λ ry) rc] 142 (0,0))/\d.heap[w.heap.size+1]?=σ (ξ (oB st (ψ na (Λ st.bJ) nc) (ψ ea (Λ ks) ec) (ψ ya (Λ st.eY) yc) (ψ da (Λ st.down) dc)) 95 (0,0))/\Ξ d (Ad X (d0+P))=σ (ψ xa (Λ r) xc)) C.drew:=⟨ad.J,ax.J,a1.J⟩;refine wp_region_noPanic ?_;refine nQ (S:=λd:ω=>d.heap[w.heap.size]?=σ (ξ #[ψ ca (Λ cy) cc,ψ (σ (Ad X d0)) (Λ ry) rc] 142 (0,0))/\d.heap[w.heap.size+1]?=σ (ξ (oB st (ψ na (Λ st.bJ) nc) (ψ ea (Λ ks) ec) (ψ ya (Λ st.eY) yc) (ψ da (Λ st.down) dc)) 95 (0,0))/\Ξ d (Ad X (d0+P))=σ (ψ xa (Λ r) xc)) DH ?_;refine df 0 rfl f ?_ (by rintro N ⟨M,-⟩;have q0:=bB M 0;have q1:=bB M 1;go_simp;rfl);refine df 1 rfl f ?_ (by rintro N ⟨-,g2,-⟩;obtain⟨s0,s1,s2,s3,s4,s5,s6,s7,s8,s9,XJ,XK,d4,d5⟩:=Nc g2;go_simp;rfl);refine df 2 rfl f ?_;refine df 3 rfl f ?_ (by rintro N ⟨M,-⟩;have q1:=bB M 1;go_simp;rfl);refine df 4 rfl f ?_;refine df 5 rfl f ?_;refine df 6 rfl f ?_ (by rintro N ⟨-,-,z1⟩;go_simp;rfl);refine vI 7 rfl (jS rfl rfl call129 (by simp[Act.eval,Act.put]) be.J ?_);rintro ab w2 ⟨kv,L,rfl,hL,bH,b3,cW⟩;have Sw:δ C.heap.size C w2:=b9.J.trans cW;have wT:(λd:ω=>d.heap[w.heap.size]?=σ (ξ #[ψ ca (Λ cy) cc,ψ (σ (Ad X d0)) (Λ ry) rc] 142 (0,0))/\d.heap[w.heap.size+1]?=σ (ξ (oB st (ψ na (Λ st.bJ) nc) (ψ ea (Λ ks) ec) (ψ ya (Λ st.eY) yc) (ψ da (Λ st.down) dc)) 95 (0,0))/\Ξ d (Ad X (d0+P))=σ (ψ xa (Λ r) xc)) w2:=⟨(Sw.block _ oY).trans ad.J,(Sw.block _ DI).trans ax.J,(Sw.cell (p:=Ad X (d0+P)) TK).trans a1.J⟩;have fM:=ak Sw;have HL:Hid (Λ L=Λ st.bJ/\∀c∈L,c.s.size<=1000000000):=ak ⟨hL,bH⟩;have zh:Hid (ug C.heap.size 129 3 fD w2 kv L):=ak b3;refine⟨_,rfl,wT,?_⟩;refine df 8 rfl wT ?_;refine wpAnyH_done (by kernel_rfl) (NoPanic.normal ?_) _;clear f wT cW Sw hL bH b3 be;obtain⟨la,lc,rfl⟩:=zh.J.slice;have oZ:=ak (O.J.trans (fM.J.mono O.J.size));have a0:=ak (Gv.J.2.aU fM.J);have⟨c5,zM,EM,Dp⟩:=a0.J.batch;have bc:=ak (XM zM EM zh.J.row (by rw[HL.J.1,HN.J];omega) HL.J.2 (by have:=Gv.J.1;have:=HN.J;omega));have KI:=ak Dp;clear zM EM Dp;go_wp21;refine bc.J.mono ?_;rintro ab w3 ⟨gi,rfl,BU,sF,gO⟩;have r7:=ak (fM.J.trans (gO.mono fM.J.size));have XR:=ak (O.J.trans (r7.J.mono O.J.size));have bi:=ak (a0.J.aU gO);have KC:=ak (zh.J.aU gO);have a9:=ak BU;have hR:=KI.J;clear gO BU a0 zh oZ fM bc ad ax a1;go_upto_if 35 with(fail)
   go_cut[6,9]from 34 to 63 (λs6 s9 U=>∃(XT:Δ υ) (e:Nat),s9=ι κ e/\Hid (e<Λ XT/\(Λ XT)<=P+1/\yj W.heap.size aa U s6 XT)/\Hid (δ W.heap.size W U))
   (case first=>by_cases cr:gi<0;{obtain⟨⟨-,oY,-⟩,wS,DI,-⟩:=lj.J w3 XR.J;go_wp2;rw[show decide (gi<0)=true from cJ cr];go_loopw[8,10] (λv c U=>∃(e:Nat) (L:Δ aF),e<=Λ st.eY/\c=ι κ e/\Hid (Λ L=Λ st.bJ+e/\∀c∈L,c.s.size<=1000000000)/\Hid (ug C.heap.size 129 3 fD U v L)/\Hid (δ C.heap.size C U)) (λ_ c _=>Λ st.eY - (intOf c).toNat);(case atStart=>exact⟨0,L,aB _,rfl,ak ⟨by rw[HL.J.1];rfl,HL.J.2⟩,KC,r7⟩);case round=>clear KC r7 XR HL;obtain⟨e,L,hj,rfl,HL,zh,E⟩:=hrel;obtain⟨la,lc,rfl⟩:=zh.J.slice;have oZ:=ak (O.J.trans (E.J.mono O.J.size));obtain⟨⟨-,oY,-⟩,wS,DI,-⟩:=lj.J wr oZ.J;have q8:Ξ wr (Ad (w.heap.size+1) 11)=σ (ψ ya (Λ st.eY) yc):=bB wS 11;clear wS;by_cases Nb:e<Λ st.eY;{have ci:=aX.2 Nb;have⟨y,wC⟩:=l9 Nb;obtain⟨g,dk,cp,he,G,-,-,y2,-⟩:=E4 (aS.aU HS.eY oZ.J (ae _)) wC;cases he;have⟨i0,px,lB,ll,kV⟩:=gq Tryz.CD;have KE:=ak (λ(d:ω) (j:δ wr.heap.size wr d) (c:aF) (hc:c.s.size<=1000000000)=>And.intro ((zh.J.aU j).asks (arr:=#[.bool c.bH,ι κ c.n,θ c.s]) (E.J.trans (j.mono E.J.size)).size (by rw[HL.J.1];omega)) (λv3 w3 Q h3=>(zh.J.aU j).push (x:=c) (v':=v3) (w':=w3) (ob:=ξ #[.bool c.bH,ι κ c.n,θ c.s] 129) (E.J.trans (j.mono E.J.size)) (E.J.trans (j.mono E.J.size)).size Q h3));have LC:Hid (∀(v3:υ) (w3:ω) (c:aF),c.s.size<=1000000000->ug C.heap.size 129 3 fD w3 v3 (L++[c])->δ C.heap.size C w3->(∃(j':Nat) (L':Δ aF),j'<=Λ st.eY/\Value.int κ ((e:Int)+1)=ι κ j'/\Hid (Λ L'=Λ st.bJ+j'/\∀c∈L',c.s.size<=1000000000)/\Hid (ug C.heap.size 129 3 fD w3 v3 L')/\Hid (δ C.heap.size C w3))):=ak (λv3 w3 c hc h1 Q=>⟨e+1,_,by omega,by go_num,ak ⟨by rw[au,HL.J.1];rfl,λs hx=>(bA.1 hx).elim (HL.J.2 s) (λab=>by rw[bj.1 ab];exact hc)⟩,ak h1,ak Q⟩);have cd:=ak (Pn wr);clear wC;have HQ:=ak (KE.J wr (aj _ _) ⟨false,0,⟨#[]⟩⟩ (aB _));go_wp2_with(at_builtin;refine ef _ rfl _ _ 156 rfl C.heap.size 129 i0 _ 3 32 underlying156 px lB ll kV rfl (by decide) (ψ la (Λ L) lc) (Λ L) (L.flatMap fD) rfl HQ.J.1.1 (Ad wr.heap.size 0) 1 1 (fD ⟨false,0,⟨#[]⟩⟩) rfl rfl HQ.J.1.2.1 (by simp[fD,Value.oneCell']) HQ.J.1.2.2.1 (HQ.J.1.2.2.2.1 32 (by decide)) HQ.J.1.2.2.2.2 ?_);{intro v3 w4 Q h3 h4;have HP:=ak (HQ.J.2 v3 w4 Q h3);clear Q h3 h4;go_wp21;exact⟨LC.J _ _ _ (aB _) HP.J.1 HP.J.2,by simp[intOf];omega⟩};refine cd.J.mono ?_;rintro ab w4 ⟨rfl,qP⟩;have PB:=ak (KE.J w4 qP fj (aB _));clear qP;unfold fj eB at *;go_wp2_with(at_builtin;refine ef _ rfl _ _ 156 rfl C.heap.size 129 i0 _ 3 32 underlying156 px lB ll kV rfl (by decide) (ψ la (Λ L) lc) (Λ L) (L.flatMap fD) rfl PB.J.1.1 (Ad w4.heap.size 0) 1 1 (fD ⟨true,0,ByteArray.empty⟩) rfl rfl PB.J.1.2.1 (by simp[fD,Value.oneCell']) PB.J.1.2.2.1 (PB.J.1.2.2.2.1 32 (by decide)) PB.J.1.2.2.2.2 ?_);intro v3 R Q h3 h4;have HP:=ak (PB.J.2 v3 R Q h3);clear Q h3 h4;go_wp2;exact⟨LC.J _ _ _ (aB _) HP.J.1 HP.J.2,by simp[intOf];omega⟩};obtain rfl:e=Λ st.eY:=(by omega);have cf:=ak (Gv.J.2.aU E.J);have d3:=Gv.J.1;go_wp2_with(at_builtin;refine nW (arr:=#[ψ la (Λ L) lc]) rfl _ _ 140 rfl (base:=W.heap.size) underlying140 Tryz.zW ⟨rfl,by decide,by decide⟩ (v:=ψ oa (Λ us) oc) (n:=Λ us) (xs:=us) rfl cf.J.own (N:=wr.heap.size) rfl rfl rfl (by simp[Value.oneCell']) (by omega) oZ.J.size ?_);intro g3 qF R Q h3 h4;have HP:=ak (Gv.J.2.push E.J oZ.J O.J.size zh.J (by rw[HN.J];exact HL.J) (by have:=HN.J;omega) Q h3 h4);clear Q h3 h4;go_wp2;go_meet;exact⟨us++[ψ la (Λ L) lc],Λ us,rfl,ak ⟨by simp,by simp;omega,HP.J.1⟩,ak HP.J.2⟩};obtain⟨gn,rfl⟩:∃gn:Nat,gi=gn:=⟨gi.toNat,by omega⟩;go_wp2;go_meet;exact⟨us,gn,rfl,ak ⟨by have:=a9.J (by omega);omega,by have:=Gv.J.1;omega,bi.J⟩,XR⟩);case rest=>
    obtain⟨XT,jg,rfl,HU,b8⟩:=hcut;obtain⟨wq,cU⟩:∃s,s=wc:=⟨_,rfl⟩;subst cU;obtain⟨pa,pc,rfl,b5,-⟩:=cR HU.J.2.2.own;obtain⟨pg,rfl,cI⟩:=b5 (by have:=HU.J.1;omega);clear bi KC r7 XR HL KI a9 ce q1 cI b5;go_wp2;go_loopw[11] (λc U=>∃e:Nat,e<=Λ st.eY/\c=ι κ e/\Hid (yj W.heap.size aa U (ψ (σ (Ad pg 0)) (Λ XT) pc) XT)/\Hid (δ W.heap.size W U)) (λc _=>Λ st.eY - (intOf c).toNat);(case atStart=>exact⟨0,aB _,rfl,ak HU.J.2.2,b8⟩);case round=>
     obtain⟨e,hj,rfl,HG,E⟩:=hrel;obtain⟨⟨hk,oY,-⟩,wS,DI,-⟩:=lj.J wr E.J;have q8:Ξ wr (Ad (w.heap.size+1) 11)=σ (ψ ya (Λ st.eY) yc):=bB wS 11;have q4:Ξ wr (Ad (w.heap.size+1) 4)=σ (ψ na (Λ st.bJ) nc):=bB wS 4;have ad:=ak hk;clear wS hk;by_cases Nb:e<Λ st.eY
     .have ci:=aX.2 Nb;have⟨y,wC⟩:=l9 Nb;have⟨m,l,cp,he,G,y0,y1,y2,y3,y4,y5,y6⟩:=E4 (aS.aU HS.eY E.J (ae _)) wC;cases he;have cb:=ak (cx y (aq wC));have ap:=ak (λ(d:ω) (j:δ wr.heap.size wr d)=>E.J.trans (j.mono E.J.size));clear wC;go_upto_if 78 with(fail)
      have⟨wb,ag⟩:=nm (wr.alloc (ξ #[.bool false,ι κ 0,θ ⟨#[]⟩] 129));rw[<- ag];have c4:=ak ag;have DJ:wb.heap[wr.heap.size]?=σ (ξ #[.bool false,ι κ 0,θ ⟨#[]⟩] 129 (0,0)):=(by rw[ag];exact az _ _);have x:δ wr.heap.size wr wb:=(by rw[ag];exact(aj _ _).alloc (ae _) _);have a2:=ak DJ;have XU:=ak x;clear ag DJ x;go_cut[]from 71 to 95 (λU=>∃c:aF,Hid (c.s.size<=1000000000/\U.heap[wr.heap.size]?=σ (ξ #[.bool c.bH,ι κ c.n,θ c.s] 129 (0,0))/\δ wr.heap.size wr U))
      (case first=>rename_i Jx Kx am an;cases hbr:y.fq;(case true=>go_wp2;go_meet;exact⟨⟨false,0,⟨#[]⟩⟩,ak ⟨aB _,a2.J,XU.J⟩⟩);have⟨k,gW⟩:=cb.J hbr;have V5:=(aR.1 (show cy.findIdx? (λc=>ct c.1 y.ov.1)=σ k from gW)).1;obtain⟨s,hx⟩:∃s,r[k]?=σ s:=⟨_,af (by rw[LJ.J.1];exact V5)⟩;have⟨M,d1,p1,he,x0,x1,x2⟩:=dW.get (show dW wr _ _ from aS.aU HX.J E.J (ae _)) hx;cases he;obtain⟨gg,dd,db,he,-,BU,-⟩:=aS.at (aS.aU HX.J E.J (ae _)) (bY (aB _) (ah.1 hx).1);cases he;have dS:(k:Int)<Λ r:=(by rw[LJ.J.1];omega);have a7:=LJ.J.2 s (aq hx);have D:=aP (aj wb.heap.size wb);have ur:=ak (pQ cy _ y.ov.1 wb.drew ((HR.hc.aU (ap.J wb XU.J) (ae _)).aU D (ae _)) (by omega));rw[show mI cy y.ov.1=(k:Int)by unfold mI;rw[gW]]at ur;have ck:X<wr.heap.size:=aw a8.J E.J.size;have⟨S,Wc⟩:=nm (λd:ω=>d.heap[w.heap.size]?=σ (ξ #[ψ ca (Λ cy) cc,ψ (σ (Ad X d0)) (Λ ry) rc] 142 (0,0))/\Ξ d (Ad (w.heap.size+1) 11)=σ (ψ (σ (Ad m l)) (Λ st.eY) yc)/\Ξ d (Ad X (d0+P))=σ (ψ (σ (Ad M d1)) (Λ r) xc)/\Ξ d (Ad m (l+e*7+4))=σ (θ y.ov.1)/\Ξ d (Ad M (d1+k*3))=σ (.bool s.bH)/\Ξ d (Ad M (d1+k*3+1))=σ (ι κ s.n)/\Ξ d (Ad M (d1+k*3+2))=σ (θ s.s));have F:=ak Wc;clear Wc;have aT:=ak (λ(d:ω) (j:δ wr.heap.size wr d)=>(show S d from F.J.symm ▸ ⟨(j.block _ oY).trans ad.J,(j.cell (p:=Ad (w.heap.size+1) 11) DI).trans q8,(j.cell (p:=Ad X (d0+P)) ck).trans (HZ.J wr E.J),(j.cell (p:=Ad m (l+e*7+4)) G).trans y4,(j.cell (p:=Ad M (d1+k*3)) BU).trans x0,(j.cell (p:=Ad M (d1+k*3+1)) BU).trans x1,(j.cell (p:=Ad M (d1+k*3+2)) BU).trans x2⟩));clear hx x0 x1 x2 gW y0 y1 y2 y3 y5 y6 q4;go_wp21;have f:=aT.J wb.drew (XU.J.trans (D.mono XU.J.size));refine wp_region_noPanic ?_;refine nQ (S:=S) DH ?_;refine df 0 rfl f ?_;refine df 1 rfl f ?_ (by intro N i;rw[F.J]at i;obtain⟨M,-⟩:=i;have q1:=bB M 1;go_simp;rfl);refine df 2 rfl f ?_;refine df 3 rfl f ?_;refine df 4 rfl f ?_ (by intro N i;rw[F.J]at i;obtain⟨-,-,z1,-⟩:=i;go_simp;rfl);refine df 5 rfl f ?_;refine df 6 rfl f ?_ (by intro N i;rw[F.J]at i;obtain⟨M,-⟩:=i;have q0:=bB M 0;go_simp;rfl);refine df 7 rfl f ?_;refine df 8 rfl f ?_ (by intro N i;rw[F.J]at i;obtain⟨-,z2,-⟩:=i;go_simp;rfl);refine df 9 rfl f ?_;refine df 10 rfl f ?_;refine df 11 rfl f ?_;refine df 12 rfl f ?_;refine df 13 rfl f ?_ (by intro N i;rw[F.J]at i;obtain⟨-,-,-,z4,-⟩:=i;go_simp;rfl);refine vI 14 rfl (jS rfl rfl call67 (by simp[Act.eval,Act.put]) ur.J ?_);rintro ab w4 ⟨rfl,qP⟩;have A7:δ wb.heap.size wb w4:=D.trans qP;have K:=XU.J.trans (A7.mono XU.J.size);have wT:=aT.J w4 K;refine⟨_,rfl,wT,?_⟩;refine df 15 rfl wT ?_;refine df 16 rfl wT ?_ (by intro N i;rw[F.J]at i;obtain⟨-,-,-,-,z5,z6,z7⟩:=i;go_simp;rfl);have bo:=(A7.block _ (aA a2.J)).trans a2.J;have⟨⟨b0,b1,b2⟩,bt,bv,bx,bl⟩:=ni bo;have V:=Cy K (ae _) bo (.bool s.bH) (ι κ s.n) (θ s.s);refine vI 17 rfl ?_;unfold me;go_simp;refine⟨aT.J _ V.2,wpAnyH_done (by kernel_rfl) (NoPanic.normal ?_) _⟩;(try simp only[Act.put]);refine an _ _ (Met.intro (am _ _ ?_));(repeat apply Exists.intro);refine⟨?_,rfl⟩;exact⟨s,ak ⟨a7,V.1,V.2⟩⟩);case rest=>
       have⟨c,HC⟩:=hcut;obtain⟨T,yk⟩:∃s,s=wc:=⟨_,rfl⟩;subst yk;have⟨cq,zY,x⟩:=HC.J;obtain⟨⟨v0,v1,v2⟩,-,-,-,DK⟩:=ni zY;have c6:=ak (ap.J T x);have ar:=ak (HG.J.aU x);obtain⟨I,hP⟩:∃I,I=Λ st.bJ+e:=⟨_,rfl⟩;have ao:I<aa:=(by have:=HN.J;omega);have c3:=ak hP;have⟨Y,cu,s,b6,k0,a7,x0,x1,x2,⟨c7,a3⟩,ac⟩:=ar.J.got HU.J.1 ao;have cl:pg<T.heap.size:=(ar.J.own.lt pg rfl).2;have r8:=(x.cell (p:=Ad (w.heap.size+1) 11) DI).trans q8;have r4:=(x.cell (p:=Ad (w.heap.size+1) 4) DI).trans q4;have H:=ak (λ(d:ω) (j:δ T.heap.size T d)=>(show(λd:ω=>Ξ d (Ad (w.heap.size+1) 11)=σ (ψ (σ (Ad m l)) (Λ st.eY) yc)/\(Ξ d (Ad m (l+e*7))=σ (θ y.aI.1)/\Ξ d (Ad m (l+e*7+1))=σ (ι κ y.aI.2)/\Ξ d (Ad m (l+e*7+2))=σ (θ y.fn)/\Ξ d (Ad m (l+e*7+3))=σ (ι κ y.pl)/\Ξ d (Ad m (l+e*7+4))=σ (θ y.ov.1)/\Ξ d (Ad m (l+e*7+5))=σ (ι κ y.ov.2)/\Ξ d (Ad m (l+e*7+6))=σ (.bool y.fq))/\Ξ d (Ad pg jg)=σ (ψ (σ (Ad Y 0)) aa cu)/\(Ξ d (Ad Y (I*3))=σ (.bool s.bH)/\Ξ d (Ad Y (I*3+1))=σ (ι κ s.n)/\Ξ d (Ad Y (I*3+2))=σ (θ s.s))/\Ξ d (Ad wr.heap.size 0)=σ (.bool c.bH)/\Ξ d (Ad wr.heap.size 1)=σ (ι κ c.n)/\Ξ d (Ad wr.heap.size 2)=σ (θ c.s)) d from⟨(j.cell (p:=Ad (w.heap.size+1) 11) (aw DI x.size)).trans r8,⟨(j.cell (p:=Ad m (l+e*7)) (aw G x.size)).trans ((x.cell (p:=Ad m (l+e*7)) G).trans y0),(j.cell (p:=Ad m (l+e*7+1)) (aw G x.size)).trans ((x.cell (p:=Ad m (l+e*7+1)) G).trans y1),(j.cell (p:=Ad m (l+e*7+2)) (aw G x.size)).trans ((x.cell (p:=Ad m (l+e*7+2)) G).trans y2),(j.cell (p:=Ad m (l+e*7+3)) (aw G x.size)).trans ((x.cell (p:=Ad m (l+e*7+3)) G).trans y3),(j.cell (p:=Ad m (l+e*7+4)) (aw G x.size)).trans ((x.cell (p:=Ad m (l+e*7+4)) G).trans y4),(j.cell (p:=Ad m (l+e*7+5)) (aw G x.size)).trans ((x.cell (p:=Ad m (l+e*7+5)) G).trans y5),(j.cell (p:=Ad m (l+e*7+6)) (aw G x.size)).trans ((x.cell (p:=Ad m (l+e*7+6)) G).trans y6)⟩,(j.cell (p:=Ad pg jg) cl).trans k0,⟨(j.cell (p:=Ad Y (I*3)) a3).trans x0,(j.cell (p:=Ad Y (I*3+1)) a3).trans x1,(j.cell (p:=Ad Y (I*3+2)) a3).trans x2⟩,(j.cell (p:=Ad wr.heap.size 0) DK).trans v0,(j.cell (p:=Ad wr.heap.size 1) DK).trans v1,(j.cell (p:=Ad wr.heap.size 2) DK).trans v2⟩));have⟨S,Wc⟩:=nm (λd:ω=>Ξ d (Ad (w.heap.size+1) 11)=σ (ψ (σ (Ad m l)) (Λ st.eY) yc)/\(Ξ d (Ad m (l+e*7))=σ (θ y.aI.1)/\Ξ d (Ad m (l+e*7+1))=σ (ι κ y.aI.2)/\Ξ d (Ad m (l+e*7+2))=σ (θ y.fn)/\Ξ d (Ad m (l+e*7+3))=σ (ι κ y.pl)/\Ξ d (Ad m (l+e*7+4))=σ (θ y.ov.1)/\Ξ d (Ad m (l+e*7+5))=σ (ι κ y.ov.2)/\Ξ d (Ad m (l+e*7+6))=σ (.bool y.fq))/\Ξ d (Ad pg jg)=σ (ψ (σ (Ad Y 0)) aa cu)/\(Ξ d (Ad Y (I*3))=σ (.bool s.bH)/\Ξ d (Ad Y (I*3+1))=σ (ι κ s.n)/\Ξ d (Ad Y (I*3+2))=σ (θ s.s))/\Ξ d (Ad wr.heap.size 0)=σ (.bool c.bH)/\Ξ d (Ad wr.heap.size 1)=σ (ι κ c.n)/\Ξ d (Ad wr.heap.size 2)=σ (θ c.s));rw[<- Wc]at H;have F:=ak Wc;have bd:=ak HU.J.1;have dN:(jg:Int)<Λ XT:=(by have:=HU.J.1;omega);have dn:(I:Int)<aa:=(by omega);have ds:(Λ st.bJ:Int)+e=I:=(by omega);have aC:=ak (λd=>XO y s c d a7 cq);have av:=ak b6;have c2:=ak ac;clear Wc k0 x0 x1 x2 v0 v1 v2 y0 y1 y2 y4 y5 y6 q4 q8 zY ac hP b6;go_wp2;go_cut[14,15]from 101 to 117 (λc0 c1 U=>∃(bb:Nat) (A:aF) (ok:Bool),c0=π (σ (Ad bb 0))/\c1=.bool ok/\Hid (A.s.size<=1000000000/\U.heap[bb]?=σ (ξ #[.bool A.bH,ι κ A.n,θ A.s] 129 (0,0))/\T.heap.size<=bb/\δ T.heap.size T U))
       (case first=>rename_i Jx Kx am an;have D:=aP (aj T.heap.size T);have f:=H.J T.drew D;refine wp_region_noPanic ?_;refine nQ (S:=S) DH ?_;refine df 0 rfl f ?_;refine df 1 rfl f ?_ (by intro N i;rw[F.J]at i;obtain⟨z0,-⟩:=i;go_simp;rfl);refine df 2 rfl f ?_;refine df 3 rfl f ?_;refine df 4 rfl f ?_ (by intro N i;rw[F.J]at i;obtain⟨-,⟨z0,z1,z2,z3,z4,z5,z6⟩,-⟩:=i;go_simp;rfl);refine df 5 rfl f ?_;refine df 6 rfl f ?_;refine df 7 rfl f ?_;refine df 8 rfl f ?_ (by intro N i;rw[F.J]at i;obtain⟨-,-,z0,-⟩:=i;go_simp;rfl);refine df 9 rfl f ?_;refine df 10 rfl f ?_;refine df 11 rfl f ?_ (by intro N i;rw[F.J]at i;obtain⟨-,-,-,⟨z0,z1,z2⟩,-⟩:=i;go_simp;rfl);refine df 12 rfl f ?_ (by intro N i;rw[F.J]at i;obtain⟨-,-,-,-,z0,z1,z2⟩:=i;go_simp;rfl);refine abA (i:=13) (j:=17) (by kernel_rfl) rfl rfl ⟨rfl,rfl⟩ (jS rfl rfl call132 (by simp[Act.eval,Act.put,rD,eB]) (aC.J _) ?_) ?_;{rintro ab R ⟨A,ok,rfl,a4,A7⟩;have K:=D.trans (A7.mono D.size);refine⟨_,rfl,H.J R K,?_⟩;unfold eB;refine df 14 rfl (H.J R K) ?_;refine df 15 rfl (H.J R K) ?_;refine df 16 rfl (H.J R K) ?_;refine vI 17 rfl ?_;unfold me;go_simp;have OL:=K.alloc K.size (ξ #[.bool false,ι κ 0,θ ⟨#[]⟩] 129);refine⟨H.J _ OL,?_⟩;have DJ:=az R (ξ #[.bool false,ι κ 0,θ ⟨#[]⟩] 129);have V:=Cy OL K.size DJ (.bool A.bH) (ι κ A.n) (θ A.s);have⟨⟨b0,b1,b2⟩,bt,bv,bx,bl⟩:=ni DJ;generalize R.alloc (ξ #[.bool false,ι κ 0,θ ⟨#[]⟩] 129)=X5 at *;refine vI 18 rfl ?_;unfold me;go_simp;refine⟨H.J _ V.2,?_⟩;refine df 19 rfl (H.J _ V.2) ?_;refine wpAnyH_done (by kernel_rfl) (NoPanic.normal ?_) _;(try simp only[Act.put]);refine an _ _ (Met.intro (am _ _ ?_));(repeat apply Exists.intro);refine⟨?_,rfl⟩;exact⟨_,A,ok,rfl,rfl,ak ⟨a4,V.1,K.size,V.2⟩⟩};unfold me;go_simp;have OL:=aP ((aj T.heap.size T).alloc (ae _) (ξ #[.bool false,ι κ 0,θ ⟨#[]⟩] 129));refine⟨H.J _ OL,?_⟩;have DJ:=zX T (ξ #[.bool false,ι κ 0,θ ⟨#[]⟩] 129);generalize (T.alloc (ξ #[.bool false,ι κ 0,θ ⟨#[]⟩] 129)).drew=X5 at *;refine vI 13 rfl (jS rfl rfl call132 (by simp[Act.eval,rD,eB]) (aC.J _) ?_);rintro ab R ⟨A,ok,rfl,a4,A7⟩;have K:=OL.trans (A7.mono OL.size);have bn:=(A7.block _ (aA DJ)).trans DJ;have V:=Cy K D.size bn (.bool A.bH) (ι κ A.n) (θ A.s);have⟨⟨b0,b1,b2⟩,bt,bv,bx,bl⟩:=ni bn;refine⟨_,rfl,H.J R K,?_⟩;unfold eB;refine df 14 rfl (H.J R K) ?_;refine df 15 rfl (H.J R K) ?_;refine df 16 rfl (H.J R K) ?_;refine vI 18 rfl ?_;unfold me;go_simp;refine⟨H.J _ V.2,?_⟩;refine df 19 rfl (H.J _ V.2) ?_;refine wpAnyH_done (by kernel_rfl) (NoPanic.normal ?_) _;(try simp only[Act.put]);refine an _ _ (Met.intro (am _ _ ?_));(repeat apply Exists.intro);refine⟨?_,rfl⟩;exact⟨_,A,ok,rfl,rfl,ak ⟨a4,V.1,D.size,V.2⟩⟩);case rest=>obtain⟨bb,A,ok,rfl,rfl,tH⟩:=hcut;obtain⟨we,Nd⟩:∃s,s=wc:=⟨_,rfl⟩;subst Nd;have⟨cn,a5,dy,al⟩:=tH.J;obtain⟨⟨b0,b1,b2⟩,-,-,-,co⟩:=ni a5;have H7:=ak (ap.J we (x.trans (al.mono x.size)));have r9:=(al.cell (p:=Ad (w.heap.size+1) 11) (aw DI x.size)).trans r8;have y9:=(al.cell (p:=Ad m (l+e*7+3)) (aw G x.size)).trans ((x.cell (p:=Ad m (l+e*7+3)) G).trans y3);have ba:=ak (ar.J.aU al);have XE:=ak a5;clear a5 r8 y3 r4 aC H F ad;cases ok;{go_wp2;go_quiet(fail);all_goals (try go_wp2);go_ret2;exact⟨_,y.pl,rfl,⟨_,_,_,rfl⟩,λh=>by omega,by repeat(first|exact(fZ.call H7.J).lo|refine aP ?_|refine below_drewN ?_ _)⟩};have D:=aP (aj we.heap.size we);obtain⟨dl,dg,x',XV,k1,c8,x0,x1,x2,-,ac⟩:=(ba.J.aU D).got bd.J ao;rw[av.J]at XV;cases XV;have f0:=ac (I*3);have f1:=ac (I*3+1);have f2:=ac (I*3+2);have ai:=ak ((ba.J.aU D).put (aP H7.J) av.J ao A cn);have⟨S,Wc⟩:=nm (λd:ω=>Ξ d (Ad pg jg)=σ (ψ (σ (Ad Y 0)) aa cu)/\d.heap[bb]?=σ (ξ #[.bool A.bH,ι κ A.n,θ A.s] 129 (0,0)));have f:S we.drew:=Wc ▸ ⟨k1,(D.block bb co).trans XE.J⟩;have F:=ak Wc;have a6:bb≠Y:=(by omega);clear ac Wc b0 b1 b2 k1 D;go_wp2;refine wp_region_noPanic ?_;refine nQ (S:=S) DH ?_;generalize we.drew=d at *;refine df 0 rfl f ?_;refine df 1 rfl f ?_;refine df 2 rfl f ?_;refine df 3 rfl f ?_ (by rintro N i;rw[F.J]at i;obtain⟨z0,-⟩:=i;go_simp;rfl);refine df 4 rfl f ?_;refine df 5 rfl f ?_ (by rintro N i;rw[F.J]at i;obtain⟨-,zb⟩:=i;have z0:=bB zb 0;have z1:=bB zb 1;have z2:=bB zb 2;go_simp;rfl);refine df 6 rfl f ?_;refine vI 7 rfl ?_;unfold me;go_simp;refine⟨?_,wpAnyH_done (by kernel_rfl) (NoPanic.normal ?_) _⟩;{rw[F.J]at f ⊢;obtain⟨g',A,x',XV,k1,-⟩:=ai.J.1.got bd.J ao;rw[av.J]at XV;cases XV;exact⟨k1,(aL _ _ _ _ a6).trans ((aL _ _ _ _ a6).trans ((aL _ _ _ _ a6).trans f.2))⟩};have KE:=ak (And.intro ai.J.1 ai.J.2);generalize ((d.setCell _ _).setCell _ _).setCell _ _=Z at KE ⊢;clear ai;go_wp2;exact⟨⟨e+1,by omega,by go_num,ak KE.J.1,ak KE.J.2⟩,by simp[intOf];omega⟩
     obtain rfl:e=Λ st.eY:=(by omega);go_wp2;exact⟨⟨P+1,XT,by omega,by go_num,ak ⟨HU.J.2.1,HG.J⟩,E⟩,by simp[intOf];omega⟩
  obtain rfl:P=Λ ry:=(by omega);have H7:=ak (fZ.call O.J).lo;have⟨cg,o1,o2,o3⟩:=Gv.J.2.batch;have HO:=ak (And.intro o1 (And.intro o2 (ay (uF o3) Gv.J.1)));clear o1 o2 o3;go_wp2;go_ret2;exact⟨_,-1,rfl,⟨_,_,_,rfl⟩,λ_=>⟨cg,HO.J.1,HO.J.2.1,HO.J.2.2,λ_ g ab=>.inr (ay fZ.lo.size (Gv.J.2.own.lt g ab).1)⟩,H7.J⟩
end
section
theorem ft.first{w:ω}{a:Option Addr}{cap:Nat}{ry:Δ (Δ aF)}(x:ft w (ψ a (Λ ry) cap) ry){k:Nat}(H:k<Λ ry):ft w (ψ a k cap) (ry.take k):=by
 obtain⟨m,f,y⟩:=x;have e:(ry.take k).length=k:=by rw[bZ];omega
 refine⟨m.take k,⟨by rw[bZ,f.1,e];omega,?_⟩,λD cs d=>?_⟩;{obtain⟨g,o,c,s,G,A,C⟩:=aS.at f (by omega);cases s;refine .inr ⟨g,o,_,by rw[e],by rw[e];omega,A,λl j=>?_⟩;rw[e,lT]at j;have i:l<Λ m:=(by rw[f.1];omega);rw[C l _ (af i),dL,aN j,af i]};rw[dL]at d;split at d;{obtain⟨u,E,F⟩:=y D cs d;exact⟨u,by rw[dL,aN ‹_›];exact E,F⟩};cases d
theorem zg.wide{w w':ω}{r:Ending}{n:Nat}{z:Option Nat}(f:zg w w' r n m z)(x:m<=y):zg w w' r n y z:=by obtain⟨v,e,i,j,l,s⟩:=f;exact⟨v,e,i,j,λF=>by obtain⟨d,A,C,D,E⟩:=l F;exact⟨d,A,C,ay D x,E⟩,s⟩
def XW(n:Nat)(v:υ):Option Nat:=if n=0 then ν else Ω v
variable {b o:Nat} {ns:Δ cz} {cv rv uv tv nv ev mv dv:υ} {cy more c:Δ bU} {ry KG:Δ (Δ aF)} {st:dz}
theorem XY{w:ω}(hn:sZ w b o ns)(Kh:∀e∈st.fG,Ks e.1)(R:uw w cv rv cy ry)(Y:uw w uv tv more KG)(I:Kz w ns st nv ev mv dv)(H:DB st)(Q:nY cy more st c){room:Int}(F:0<=room)(hm:room<=5000):Calls prog 63 #[π (σ (Ad b o)),χ #[cv,rv],χ #[uv,tv],.agg (oB st nv ev mv dv),ι κ room] w λr w'=>zg w w' r (Λ c) 10000 (XW (Λ ry) rv):=by
 have⟨W,hW⟩:=nm (((w.alloc (ξ #[cv,rv] 142)).alloc (ξ #[uv,tv] 142)).alloc (ξ (oB st nv ev mv dv) 95));have l:=ajr w _ _ _ _ _ _ hW;have N:=ak hW;have HN:=(hn.aU l.lo (ae _));have j:=(R.aU l.lo (ae _));have HT:=(Y.aU l.lo (ae _));have V:=(I.aU l.lo (ae _));obtain⟨ca,cc,rfl⟩:=R.hc.slice;obtain⟨ra,rc,rfl⟩:=R.hr.slice;obtain⟨va,vc,rfl⟩:=Y.hc.slice;obtain⟨ta,tc,rfl⟩:=Y.hr.slice;obtain⟨na,nc,rfl⟩:=aS.slice I.bJ;obtain⟨ks,mL,j6,BS⟩:=I.fG;have ap:=ak (aS.aU j6 l.lo (ae _));have EK:=ak (And.intro mL BS);obtain⟨ea,ec,rfl⟩:=aS.slice j6;obtain⟨ya,yc,rfl⟩:=aS.slice I.eY;obtain⟨da,dc,rfl⟩:=aS.slice I.down;obtain⟨EL,U⟩:=R.len;obtain⟨Z,aT,-⟩:=l.box (i:=2) rfl;obtain⟨K,a0,-⟩:=l.box (i:=1) rfl;obtain⟨G,a1,-⟩:=l.box (i:=0) rfl;have M:Hid (∀w' r n aa z,z=ν\/z=XW (Λ ry) (Value.slice ra (Λ ry) rc)->n=Λ c->aa<=10000->zg W w' r n aa z->zg w w' r (Λ c) 10000 (XW (Λ ry) (Value.slice ra (Λ ry) rc))):=ak (λw' r n aa z hz e hN x=>by
  subst e;obtain⟨v,e,f,m,D,E⟩:=x.wide hN;refine⟨v,e,f,m,λag=>?_,(l.call E).lo⟩;obtain⟨ab,K,G,k3,k4⟩:=D ag;refine⟨ab,K,G,k3,λF g hg=>?_⟩;rcases k4 F g hg with X|X
  . rcases hz with rfl|rfl
    . cases X
    . exact .inl X
  . exact .inr (ay l.lo.size X))
 clear hn R Y I hW mL j6 BS;have t1:=bX st.cU [119,104,101,114,101];have t2:=bX st.cU [109,97,112];have t3:=bX st.cU [106,111,105,110];have t4:=bX st.cU [103,114,111,117,112];have t5:=bX st.cU [111,114,100,101,114];cases f:ct st.cU fQ;case true=>
  rw[show bs [119,104,101,114,101]=fQ from rfl,f]at t1;obtain⟨e,T,O⟩:∃e T,st.fG=e::T:=by cases hx:st.fG with|nil=>exact absurd hx (H.wh f)|cons e T=>exact⟨e,T,rfl⟩
  obtain⟨k,P⟩:∃k,ks[0]?=σ k:=⟨_,af (by rw[EK.J.1,O];simp)⟩;have OH:=EK.J.2 0 k e P (by rw[O];rfl);have d:=Q;unfold nY at d;rw[aN f]at d;have qZ:=aP (aj W.heap.size W);have A:=ak (XI (HN.aU qZ (ae _)) (Kh e (by rw[O];exact .head _)) (j.aU qZ (ae _)) OH.1 (d.2 e T O) OH.2.1);obtain⟨g,ac,cp,he,-,tF,ao⟩:=aS.at ap.J (bY (aB _) (ah.1 P).1);cases he;have x0:Ξ W (Ad g ac)=σ (ι κ k):=ao 0 _ (by rw[bp,P];rfl);have oY:(0:Int)<Λ ks:=by have:=(ah.1 P).1;omega
  have s:=ak (show Λ cy=Λ c by rw[d.1]);have ai:=ak qZ;have q0:Ξ W (Ad w.heap.size 0)=σ (ψ ca (Λ cy) cc):=bB Z 0;have q1:Ξ W (Ad w.heap.size 1)=σ (ψ ra (Λ ry) rc):=bB Z 1;have q5:Ξ W (Ad (w.heap.size+1+1) 5)=σ (ψ (σ (Ad g ac)) (Λ ks) ec):=bB G 5;clear f P OH O ao d qZ Z K G;unfold oB at N ⊢;go_in;go_wp2_with fail;rw[<- N.J];go_region_with(go_at_call 88;(with_reducible refine dM A.J ?_);rintro r w1 ⟨v,p,rfl,⟨a,ad,av,rfl⟩,y,C⟩;have i:=ak (And.intro y C);clear y C);all_goals (try go_wp2_with fail);refine aE (by simp[results,results63,go_sem];rfl) rfl ?_;exact M.J _ _ _ _ ν (.inl rfl) s.J U ⟨_,p,rfl,⟨_,_,_,rfl⟩,λx=>by have hz:=ai.J.size;obtain⟨ab,K,G,k3,k4⟩:=i.J.1 x;exact⟨ab,K,G,k3,λF g hg=>(k4 F g hg).imp id λx=>ay hz x⟩,ai.J.trans i.J.2⟩
 (case' false=>rw[show bs [119,104,101,114,101]=fQ from rfl,f]at t1;cases m:ct st.cU rq);(case' false.true=>rw[show bs [109,97,112]=rq from rfl,m]at t2;have d:=Q;unfold nY at d;rw[aH (by rw[f];simp),aN m]at d;have A:=ak (PD HN Kh j V (by have:=H.mp m;have:=H.len.1;omega) d.2.1);have s:=ak (d.1.symm));(case' false.false=>rw[show bs [109,97,112]=rq from rfl,m]at t2;cases D:ct st.cU mT);(case' false.false.true=>rw[show bs [106,111,105,110]=mT from rfl,D]at t3;have d:=Q;unfold nY at d;rw[aH (by rw[f];simp),aH (by rw[m];simp),aN D]at d;have A:=ak (abq j HT V F hm d.2.1 d.2.2);have s:=ak (show Λ cy+Λ more=Λ c by rw[d.1,au]));(case' false.false.false=>rw[show bs [106,111,105,110]=mT from rfl,D]at t3;cases E:ct st.cU kh);(case' false.false.false.true=>rw[show bs [103,114,111,117,112]=kh from rfl,E]at t4;have d:=Q;unfold nY at d;rw[aH (by rw[f];simp),aH (by rw[m];simp),aH (by rw[D];simp),aN E]at d;have A:=ak (KL j V d.2.1 (λad hm hb=>(d.2.2.1 ad hm).resolve_left (by rw[hb];simp)) (H.gm E) H.len.1 H.len.2);have s:=ak (d.1.symm));(case' false.false.false.false=>rw[show bs [103,114,111,117,112]=kh from rfl,E]at t4;have d:=Q;unfold nY at d;rw[aH (by rw[f];simp),aH (by rw[m];simp),aH (by rw[D];simp),aH (by rw[E];simp)]at d;have s:=ak (show Λ cy=Λ c by rw[d.1]);cases h5:ct st.cU kE);(case' false.false.false.false.true=>rw[show bs [111,114,100,101,114]=kE from rfl,h5]at t5;have A:=ak (TJ j V (d.2 h5) (H.od h5)));case' false.false.false.false.false=>
  rw[show bs [111,114,100,101,114]=kE from rfl,h5]at t5;rcases lO st.n (Λ ry) with ar|ar
  obtain⟨vs,an,-⟩:=j.hr;obtain⟨g,ac,cp,he,Ib,-⟩:=aS.at an (by omega);cases he;have aC:st.n<=rc:=by omega
  clear an
 (all_goals clear Z K G;(try clear d);clear f m;(try clear D);(try clear E);(try clear h5);unfold oB at N ⊢;(try unfold oB at A);go_in;go_wp2_with fail;(try rw[<- N.J]));all_goals first
  | (refine A.J.mono ?_
     rintro r w1 ⟨v,p,rfl,⟨a,ad,av,rfl⟩,y,C⟩;have i:=ak (And.intro y C);clear y C;go_wp2_with fail;refine aE (by simp[results,results63,go_sem];rfl) rfl ?_;exact M.J _ _ _ _ ν (.inl rfl) s.J U ⟨_,p,rfl,⟨_,_,_,rfl⟩,i.J.1,i.J.2⟩)
  | (refine A.J.mono ?_
     rintro r w1 ⟨v,al,rfl,y,am,ax,BU,C⟩;obtain⟨a,c',rfl⟩:=y.slice;have i:=ak (And.intro (And.intro y (And.intro am (show Λ al<=10000 by omega))) (And.intro BU C));clear y BU C am ax;go_wp2_with fail;refine aE (by simp[results,results63,go_sem];rfl) rfl ?_;exact M.J _ _ _ _ ν (.inl rfl) s.J (ae _) ⟨_,-1,rfl,⟨_,_,_,rfl⟩,λ_=>⟨al,i.J.1.1,i.J.1.2.1,i.J.1.2.2,λ_=>i.J.2.1⟩,i.J.2.2⟩)
  |skip
 all_goals(try rw[<- N.J])
 all_goals refine aE (by simp[results,results63,go_sem];rfl) rfl ?_
 {exact M.J _ _ _ _ _ (.inr rfl) s.J U ⟨_,-1,rfl,⟨_,_,_,rfl⟩,λ_=>⟨ry.take st.n,j.hr.first (by omega),λag hx=>j.ok ag (iE hx),by rw[bZ];omega,λF g x=>.inl (by unfold XW;rw[aH (by omega)];exact x)⟩,aj _ _⟩};exact M.J _ _ _ _ _ (.inr rfl) s.J U ⟨_,-1,rfl,⟨_,_,_,rfl⟩,λ_=>⟨ry,j.hr,j.ok,ae _,λF g x=>.inl (by unfold XW;rw[aH (by omega)];exact x)⟩,aj _ _⟩
end
theorem abF(w:ω)(d:Int):(convert 252 9 (ψ (σ ⟨w.heap.size,0,ν⟩) 1 1)).run prog (w.alloc (ξ #[ι .u8 d] 5))=.ok (θ ⟨#[UInt8.ofNat d.toNat]⟩) (w.alloc (ξ #[ι .u8 d] 5)):=by
 rw[qp _ 252 9 5 _ _ _ underlying252 underlying5 underlying9];have i:(loadCells ⟨w.heap.size,0,ν⟩ 1).run prog (w.alloc (ξ #[ι .u8 d] 5))=.ok (([d]).map (Value.int .u8)).toArray (w.alloc (ξ #[ι .u8 d] 5)):=
  vw (P:=prog) _ ⟨w.heap.size,0,ν⟩ [ι .u8 d] (λf u e=>by
   cases f with
   |zero=>cases e;exact bB (az w _) 0
   |succ f=>simp at e)
 rw[v7 _ _ _ _ _ i];rfl
def XZ(w w':ω)(r:Ending)(n:Nat):Prop:=∃s,r=τ (θ s)/\s.size<=n/\δ w.heap.size w w'
theorem Ic(n:Int)(f:Nat)(w:ω)(I:f<=1000)(C:2<=f)(s:wrap64 (n.tdiv 10)≠0->∀w,Calls prog 134 #[ι κ (wrap64 (n.tdiv 10))] w λr w'=>XZ w w' r f):Calls prog 134 #[ι κ n] w λr w'=>XZ w w' r (f+1):=by
 obtain⟨t,K⟩:∃t,n.tmod 10=t:=⟨_,rfl⟩;obtain⟨q,m⟩:∃q,wrap64 (n.tdiv 10)=q:=⟨_,rfl⟩;rw[m]at s;have M:-9<=t:=by have:=Int.lt_tmod_of_pos n (b:=10) (by omega);omega
 have N:t<=9:=by have:=Int.tmod_lt_of_pos n (b:=10) (by omega);omega
 obtain⟨d,e⟩:∃d:Int,d=if t<0 then -t else t:=⟨_,rfl⟩
 have G:0<=d:=by rw[e];split<;>omega
 have H:d<=9:=by rw[e];split<;>omega
 have E:=abF w (48+d);have i:=Br (W:=w.alloc (ξ #[ι .u8 (48+d)] 5)) rfl;go_in;by_cases j:q=0;case' pos=>rw[j]at m
 all_goals by_cases l:t<0
 all_goals first|rw[aN l]at e|(rw[aH l]at e;subst e)
 all_goals(try have F:-t=d:=e.symm)
 all_goals(try clear e)
 all_goals go_wp21
 all_goals first
  | (refine(s j _).mono ?_
     rintro r P ⟨O,rfl,D,A⟩;have x:=(i.trans (A.mono i.size));have y:=ak D;go_wp2;go_ret;exact⟨_,rfl,by rw[eN];exact Nat.add_le_add y.J (ae _),x⟩)
  | (go_ret
     exact⟨_,rfl,by(try rw[eN]);exact ay (by first|exact ae 2|exact dt 1) (vY C),i⟩)
theorem Wd:∀(k:Nat),k<=100->∀(n:Int),n.natAbs<10 ^ k->∀w,Calls prog 134 #[ι κ n] w λr w'=>XZ w w' r (k+3)
 |0,_,n,hn,w=>Ic n 2 w (by omega) (by omega) (λd=>absurd (by have:n=0:=(by simpa using hn);subst this;simp[wrap64]) d)
 |k+1,hk,n,hn,w=>Ic n (k+3) w (by omega) (by omega) (λ_ w=>Wd k (by omega) _ (by
     have e:(n.tdiv 10).natAbs=n.natAbs / 10:=by rw[Int.natAbs_tdiv];rfl
     have f:(wrap64 (n.tdiv 10)).natAbs<=(n.tdiv 10).natAbs:=by unfold wrap64;omega
     rw[Nat.pow_succ]at hn;omega) w)
theorem abG(n:Int)(w:ω):Calls prog 134 #[ι κ n] w λr w'=>XZ w w' r 23:=
 Ic n 22 w (by omega) (by omega) (λ_ w=>Wd 19 (by omega) _ (by unfold wrap64;omega) w)
def Ke.str(B:Nat):Ke:=⟨λv _ _ _=>∃u:Γ,v=θ u/\u.size<=B,λ_ _ _ _ _ h _=>h⟩
theorem LM(k:Int)(w:ω):Calls prog 93 #[ι κ k] w λr w'=>XZ w w' r 4:=by go_in;go_wp2;all_goals go_ret;exact⟨_,rfl,by decide,aj _ _⟩
theorem X3(k:Int)(c:aF)(w:ω)(i:c.s.size<=1000000000):Calls prog 94 #[ι κ k,eB c] w λr w'=>XZ w w' r 1000000030:=by
 have d:=(λe=>abG c.n e);unfold eB;go_in;go_wp21;all_goals first
  | (go_ret
     exact⟨_,rfl,by(first|decide|(simp only[ByteArray.size_append];exact ay (Nat.add_le_add_right (Nat.add_le_add_left i _) _) (by decide))),(aj _ _).alloc (ae _) _⟩)
  | (refine(d _).mono ?_
     rintro r s ⟨m,rfl,j,f⟩;have l:=(((aj w.heap.size w).alloc (ae _) _).trans (f.mono (by simp)));go_wp2;go_ret;exact⟨_,rfl,ay j (by decide),l⟩)
theorem X4{w:ω}{cv rv:υ}{cy:Δ bU}{ry:Δ (Δ aF)}(Y:uw w cv rv cy ry)(hz:Small cy):Calls prog 64 #[χ #[cv,rv]] w λr w'=>∃m,r=τ (θ m)/\δ w.heap.size w w':=by
 have⟨W,hW⟩:=nm (w.alloc (ξ #[cv,rv] 142));have f:=Br hW;have fZ:=(zF.start w).new #[cv,rv] 142;rw[<- hW]at fZ;have F:=(Y.aU f (ae _));obtain⟨ca,M,rfl⟩:=Y.hc.slice;obtain⟨ra,rc,rfl⟩:=Y.hr.slice;have⟨EL,BT⟩:=Y.len;have lj:=ak (λwr (f:δ W.heap.size W wr)=>(show Ξ wr (Ad w.heap.size 0)=σ (ψ ca (Λ cy) M)/\Ξ wr (Ad w.heap.size 1)=σ (ψ ra (Λ ry) rc)/\w.heap.size<wr.heap.size from by
  obtain⟨h1,h2,-⟩:=(fZ.call f).box (i:=0) rfl;exact⟨bB h1 0,bB h1 1,h2⟩))
 have DH:prog.follows .mixedOrders=true:=by kernel_rfl
 go_in;go_wp2;rw[<- hW];go_loopw[3,4] (λv c wr=>∃(d:Nat) (m:Γ),d<=Λ cy/\c=ι κ d/\v=θ m/\m.size<=d*1000000010/\Hid (δ W.heap.size W wr)) (λ_ c _=>Λ cy - (intOf c).toNat);case atStart=>exact⟨0,_,aB _,rfl,rfl,by decide,ak (aj _ _)⟩
 case round=>
  obtain⟨d,m,E,rfl,rfl,hs,l⟩:=hrel;have⟨P,q1,Q⟩:=lj.J wr l.J;by_cases N:d<Λ cy
  .have gY:=aX.2 N;have⟨c,Z⟩:=l9 N;have⟨g,s,cp,D,x0,x1⟩:=(F.hc.aU l.J (ae _)).get Z;cases D;have ao:=hz c (aq Z);have tF:g<wr.heap.size:=(by obtain⟨g',d',ai,D,-,h,-⟩:=aS.at (F.hc.aU l.J (ae _)) (by omega);cases D;exact h);have PE:=(LM (c.2:Int) wr.drew);go_upto_if 15 with(fail)
   go_cut[3]from 12 to 17 (λs3 e=>∃j:Γ,s3=θ j/\j.size<=d*1000000010+1/\wr=e)
   (case first=>by_cases px:d=0;{have ab:¬(0:Int)<d:=(by omega);clear px;go_wp2;go_meet;exact⟨_,rfl,Nat.le_add_right_of_le hs,rfl⟩};have ab:(0:Int)<d:=(by omega);go_wp2;go_meet;exact⟨_,rfl,by rw[eN];have:ByteArray.size ⟨#[44]⟩=1:=rfl;omega,rfl⟩);case rest=>
    obtain⟨j,rfl,T,ad⟩:=hcut;subst ad;have X:j.size<=20000000000000:=(by omega)
    have Gw:=ak T;have K:=ak (λ(i:ω) (hX:δ wr.drew.heap.size wr.drew i)=>(show Ξ i (Ad w.heap.size 0)=σ (ψ (σ (Ad g s)) (Λ cy) M)/\Ξ i (Ad g (s+d*2))=σ (θ c.1)/\Ξ i (Ad g (s+d*2+1))=σ (ι κ c.2)from
     have f:=(aP (aj wr.heap.size wr)).trans hX
     ⟨(f.cell (p:=Ad w.heap.size 0) Q).trans P,(f.cell (p:=Ad g (s+d*2)) tF).trans x0,(f.cell (p:=Ad g (s+d*2+1)) tF).trans x1⟩))
    have DH:prog.follows .mixedOrders=true:=(by kernel_rfl);have am:=(LM (c.2:Int));go_wp2;refine wp_region_noPanic ?_;refine qC (n:=17) (m:=1) (z:=75) [.is (θ j),.is (π (σ (Ad w.heap.size 0))),.is (ψ (σ (Ad g s)) (Λ cy) M),.is (ι κ d),.is (π (σ (Ad g (s+d*2)))),.is (π (σ (Ad g (s+d*2)))),.is (θ c.1),.is (θ (j++c.1)),.is (θ (j++c.1++⟨#[58]⟩)),.is (π (σ (Ad w.heap.size 0))),.is (ψ (σ (Ad g s)) (Λ cy) M),.is (ι κ d),.is (π (σ (Ad g (s+d*2)))),.is (π (σ (Ad g (s+d*2+1)))),.is (ι κ c.2),Ke.str 4,Ke.str ((j++c.1++⟨#[58]⟩).size+4)] DH rfl (by kernel_rfl) ⟨⟨⟨⟨⟨⟨⟨⟨⟨⟨⟨⟨⟨⟨⟨⟨⟨trivial,?_⟩,?_⟩,?_⟩,?_⟩,?s4⟩,?_⟩,?_⟩,?s7⟩,?s8⟩,?_⟩,?_⟩,?_⟩,?s12⟩,?_⟩,?_⟩,?s15⟩,?s16⟩ ?fin;(case s4=>refineλρ lo E i f ⟨(G:ρ (.tmp 20)=_),(V:ρ (.tmp 21)=_),_⟩=>dU (w':=i) ?_ ⟨rfl,aj _ _⟩;go_simp);(case s12=>refineλρ lo E i f ⟨(G:ρ (.tmp 28)=_),(V:ρ (.tmp 29)=_),_⟩=>dU (w':=i) ?_ ⟨rfl,aj _ _⟩;go_simp);(case s7=>refineλρ lo E i f ⟨(G:ρ (.tmp 18)=_),(V:ρ (.tmp 24)=_),_⟩=>dU (w':=i) ?_ ⟨rfl,aj _ _⟩;go_simp;omega);(case s8=>refineλρ lo E i f ⟨(G:ρ (.tmp 25)=_),(V:ρ (.const _)=_),_⟩=>dU (w':=i) ?_ ⟨rfl,aj _ _⟩;have hz:(j++c.1).size=j.size+c.1.size:=eN;have kV:ByteArray.size ⟨#[58]⟩=1:=rfl;go_simp;omega);(case s15=>refineλρ lo E i f ⟨hf,(G:ρ (.tmp 32)=_),_⟩=>jS rfl hf call93 (by simp[G]) (am i) ?_;rintro e' w2 ⟨u,rfl,O,U⟩;exact⟨_,rfl,⟨u,rfl,O⟩,U⟩);(case s16=>refineλρ lo E i f ⟨(G:ρ (.tmp 26)=_),⟨u,(V:ρ (.tmp 33)=_),O⟩,_⟩=>dU (v:=θ (j++c.1++⟨#[58]⟩++u)) (w':=i) ?_ ⟨⟨_,rfl,by have h9:((j++c.1++⟨#[58]⟩)++u).size=(j++c.1++⟨#[58]⟩).size+u.size:=eN;omega⟩,aj _ _⟩;go_simp;omega);(case fin=>intro val lo E i f hv _;have⟨u,an,O⟩:=(hv 16 (by decide)).1;simp[qg,jw,Act.put,an];have fM:=ak (l.J.trans (f.mono l.J.size));refine oy (i:=17) (by kernel_rfl) rfl rfl (dU (w':=i) (by go_simp;with_reducible rfl) ?_);refine uQ (by kernel_rfl) (NoPanic.normal ?_) _;go_wp2;exact⟨⟨d+1,_,by omega,by go_num,rfl,by have h9:=O;simp only[ByteArray.size_append]at h9;have:ByteArray.size ⟨#[58]⟩=1:=rfl;have:=Gw.J;have:=ao;omega,fM⟩,by simp[intOf];omega⟩);all_goals refineλρ lo E i f ⟨(G:ρ _=_),_⟩=>dU (w':=i) ?_ ⟨rfl,aj _ _⟩;have⟨x1,x2,x3⟩:=K.J i f;go_simp
  obtain rfl:d=Λ cy:=by omega
  have X:m.size<=20000000000000:=by omega
  go_wp2;go_loopw[3,5] (λv c e=>∃(d:Nat) (m:Γ),d<=Λ ry/\c=ι κ d/\v=θ m/\Hid (m.size<=20000000000001+d*20000000000000)/\Hid (δ W.heap.size W e)) (λ_ c _=>Λ ry - (intOf c).toNat);case atStart=>exact⟨0,_,aB _,rfl,rfl,ak (by rw[eN];have:ByteArray.size ⟨#[10]⟩=1:=rfl;omega),l⟩
  case round=>
   obtain⟨d,m,E,rfl,rfl,H,l⟩:=hrel;have⟨P,q1,Q⟩:=lj.J wr l.J;by_cases N:d<Λ ry
   .have gY:=aX.2 N;have⟨r,qt⟩:=l9 N;obtain⟨I,al⟩:∃I,I=20000000000001+d*20000000000000:=⟨_,rfl⟩;have aa:=(show I=20000000000001+d*20000000000000/\I<=200000000000000000+20000000000001 from⟨al,by omega⟩);have FV:Hid (m.size<=I):=ak (al ▸ H.J);go_wp2;go_loopw[3,6] (λv c e=>∃(k:Nat) (m:Γ),k<=Λ cy/\c=ι κ k/\v=θ m/\Hid (m.size<=I+k*1000000040)/\Hid (δ W.heap.size W e)) (λ_ c _=>Λ cy - (intOf c).toNat);(case atStart=>exact⟨0,_,aB _,rfl,rfl,ak (ay FV.J (xR _ _)),l⟩);case round=>
     obtain⟨k,m,hk,rfl,rfl,H,l⟩:=hrel;have⟨P,q1,Q⟩:=lj.J wr l.J;by_cases TH:k<Λ cy
     .have ap:=aX.2 TH;have⟨c,Z⟩:=l9 TH;obtain⟨g,s,cp,D,-,x1⟩:=(F.hc.aU l.J (ae _)).get Z;cases D;have tF:g<wr.heap.size:=(by obtain⟨g',d',ai,D,-,h,-⟩:=aS.at (F.hc.aU l.J (ae _)) (by omega);cases D;exact h);obtain⟨C,hx⟩:∃C,r[k]?=σ C:=⟨_,af (by rw[(F.ok r (aq qt)).1];exact TH)⟩;have⟨p,q,ai,A,y,p1,D,y0,⟨zi,ac⟩,y1,y2,y3⟩:=(F.hr.aU l.J (ae _)).cel qt hx;cases D;have av:(k:Int)<Λ r:=(by rw[(F.ok r (aq qt)).1];omega);have X:m.size<=300000000000000000:=(by have:=H.J;have:=aa.2;omega);have ag:=ak (X3 (c.2:Int) C wr.drew ((F.ok r (aq qt)).2 C (aq hx)));have K:=ak (λ(e:ω) (f:δ wr.heap.size wr e)=>(show(λe=>(Ξ e (Ad w.heap.size 0)=σ (ψ (σ (Ad g s)) (Λ cy) M)/\Ξ e (Ad w.heap.size 1)=σ (ψ (σ (Ad p q)) (Λ ry) rc))/\Ξ e (Ad g (s+k*2+1))=σ (ι κ c.2)/\Ξ e (Ad p (q+d))=σ (ψ (σ (Ad A y)) (Λ r) p1)/\Ξ e (Ad A (y+k*3))=σ (.bool C.bH)/\Ξ e (Ad A (y+k*3+1))=σ (ι κ C.n)/\Ξ e (Ad A (y+k*3+2))=σ (θ C.s)) e from⟨⟨(f.cell (p:=Ad w.heap.size 0) Q).trans P,(f.cell (p:=Ad w.heap.size 1) Q).trans q1⟩,(f.cell (p:=Ad g (s+k*2+1)) tF).trans x1,(f.cell (p:=Ad p (q+d)) zi).trans y0,(f.cell (p:=Ad A (y+k*3)) ac).trans y1,(f.cell (p:=Ad A (y+k*3+1)) ac).trans y2,(f.cell (p:=Ad A (y+k*3+2)) ac).trans y3⟩));unfold eB at ag;go_upto_if 52 with(fail)
      go_cut[3]from 49 to 54 (λs3 e=>∃j:Γ,s3=θ j/\j.size<=m.size+1/\wr=e)
      (case first=>by_cases px:k=0;{have ab:¬(0:Int)<k:=(by omega);clear px;go_wp2;go_meet;exact⟨_,rfl,dt _,rfl⟩};have ab:(0:Int)<k:=(by omega);go_wp2;go_meet;exact⟨_,rfl,by rw[eN];exact ae _,rfl⟩);case rest=>obtain⟨j,rfl,T,ad⟩:=hcut;subst ad;have ar:j.size<=300000000000000001:=(by omega);have Gw:=ak T;have qZ:=aP (aj wr.heap.size wr);have x:=K.J wr.drew qZ;clear T P q1 X;go_wp2;refine wp_region_noPanic ?_;refine nQ (S:=λe=>(Ξ e (Ad w.heap.size 0)=σ (ψ (σ (Ad g s)) (Λ cy) M)/\Ξ e (Ad w.heap.size 1)=σ (ψ (σ (Ad p q)) (Λ ry) rc))/\Ξ e (Ad g (s+k*2+1))=σ (ι κ c.2)/\Ξ e (Ad p (q+d))=σ (ψ (σ (Ad A y)) (Λ r) p1)/\Ξ e (Ad A (y+k*3))=σ (.bool C.bH)/\Ξ e (Ad A (y+k*3+1))=σ (ι κ C.n)/\Ξ e (Ad A (y+k*3+2))=σ (θ C.s)) DH ?_;refine df 0 rfl x ?_;refine df 1 rfl x ?_;refine df 2 rfl x ?_ (by rintro wz ⟨⟨z0,-⟩,-⟩;go_simp;with_reducible rfl);refine df 3 rfl x ?_;refine df 4 rfl x ?_;refine df 5 rfl x ?_;refine df 6 rfl x ?_ (by rintro wz ⟨-,z0,-⟩;go_simp;with_reducible rfl);refine df 7 rfl x ?_;refine df 8 rfl x ?_ (by rintro wz ⟨⟨-,z0⟩,-⟩;go_simp;with_reducible rfl);refine df 9 rfl x ?_;refine df 10 rfl x ?_;refine df 11 rfl x ?_ (by rintro wz ⟨-,-,z0,-⟩;go_simp;with_reducible rfl);refine df 12 rfl x ?_;refine df 13 rfl x ?_;refine df 14 rfl x ?_ (by rintro wz ⟨-,-,-,z0,z1,z2⟩;go_simp;with_reducible rfl);refine vI 15 rfl (jS rfl rfl call94 (by simp[Act.eval,Act.put]) ag.J ?_);rintro G w2 ⟨u,rfl,O,U⟩;have R:=(qZ.trans U);have fM:=ak (l.J.trans (R.mono l.J.size));have ax:¬9223372036854775807<j.size+u.size:=(by omega);refine⟨_,rfl,K.J w2 R,?_⟩;refine df 16 rfl (K.J w2 R) ?_;refine df 17 rfl (K.J w2 R) ?_;refine wpAnyH_done (by kernel_rfl) (NoPanic.normal ?_) _;clear x qZ U;go_wp2;exact⟨⟨k+1,_,by omega,by go_num,rfl,ak (by rw[eN];have h1:=Gw.J;have h2:=H.J;rw[nU];omega),fM⟩,by simp[intOf];omega⟩
     obtain rfl:k=Λ cy:=(by omega);have X:m.size<=300000000000000000:=(by have:=H.J;have:=aa.2;omega);go_wp2;exact⟨⟨d+1,_,by omega,by go_num,rfl,ak (by rw[eN];have:ByteArray.size ⟨#[10]⟩=1:=rfl;have:=H.J;have:=aa.1;omega),l⟩,by simp[intOf];omega⟩
   go_wp2;go_ret;exact⟨_,rfl,(fZ.call l.J).lo⟩
structure rF where
 cU:Γ
 tj:Nm
 uz:Nm
 nv:υ
 kv:υ
 rv:υ
 cond:Nat
 sv:υ
 ov:υ
def jT(c:rF):Δ υ:=[θ c.cU,θ c.tj.1,ι κ c.tj.2,θ c.uz.1,ι κ c.uz.2,c.nv,c.kv,c.rv,ι κ c.cond,c.sv,c.ov]
structure gP where
 aI:Γ
 cy:Δ bU
 ry:Δ (Δ aF)
 cv:υ
 rv:υ
structure iz where
 uz:Γ
 tj:Γ
 cy:Δ Γ
 cond:Ex
 ns:Δ cz
 cv:υ
 cmd:rF
def vD(t:gP):Δ υ:=[θ t.aI,t.cv,t.rv]
def zZ(g:iz):Δ υ:=θ g.uz::θ g.tj::g.cv::jT g.cmd
structure afz (w:ω)(t:gP):Prop where
 rel:uw w t.cv t.rv t.cy t.ry
 small:Small t.cy
 len:Λ t.cy<=5/\(Λ t.ry)<=64
structure DGr (w:ω)(ts:Δ gP)(g:iz):Prop where
 cy:aS w 1 g.cv (Λ g.cy) (g.cy.map .string)
 nodup:g.cy.Pairwise λa b=>ct a b=false
 abI:Λ g.cy<=302
 gp:aS w 7 g.cmd.ov (Λ g.ns) (kZ g.ns)
 small:Ks g.cond
 rep:tS g.cond/\OD g.ns g.cmd.cond g.cond
 ew:(∃a n c,g.cmd.nv=ψ a n c)/\(∃a n c,g.cmd.kv=ψ a n c)/\(∃a n c,g.cmd.rv=ψ a n c)/\∃a n c,g.cmd.sv=ψ a n c
 over:∀t∈ts,ct t.aI g.tj=true->rE t.cy g.cond
structure Nf (w:ω)(p:Nat)(ts:Δ gP)(gs:Δ iz)(bz:Nat):Prop where
 cell:∃tv gv,w.heap[p]?=σ (ξ #[tv,gv,ι κ bz] 100 (0,0))/\aS w 3 tv (Λ ts) (ts.flatMap vD)/\aS w 14 gv (Λ gs) (gs.flatMap zZ)
 tabs:∀t∈ts,afz w t
 grants:∀g∈gs,DGr w ts g
 len:Λ ts<=4/\(Λ gs)<=8/\bz<=4096
section
variable {w w':ω} {p B:Nat} {ts:Δ gP} {gs:Δ iz} {bz:Nat}
theorem Nf.aU(i:Nf w p ts gs bz)(f:δ B w w')(e:w.heap.size<=B):Nf w' p ts gs bz:=by have⟨tv,l,j,m,s⟩:=i.cell;refine⟨⟨tv,l,(f.block p (aw (aA j) e)).trans j,aS.aU m f e,aS.aU s f e⟩,λt y=>?_,λg x=>?_,i.len⟩;{have d:=i.tabs t y;exact⟨d.rel.aU f e,d.small,d.len⟩};have d:=i.grants g x;exact⟨aS.aU d.cy f e,d.nodup,d.abI,aS.aU d.gp f e,d.small,d.rep,d.ew,d.over⟩
theorem G7{v:υ}(f:aS w 3 v (Λ ts) (ts.flatMap vD)){t:gP}(e:ts[m]?=σ t):∃g o cap,v=ψ (σ (Ad g o)) (Λ ts) cap/\g<w.heap.size/\Ξ w (Ad g (o+m*3))=σ (θ t.aI)/\Ξ w (Ad g (o+m*3+1))=σ t.cv/\Ξ w (Ad g (o+m*3+2))=σ t.rv:=by obtain⟨g,o,cap,s,-,i,x⟩:=f.at (bY (aB _) (ah.mp e).1);have q:∀d,d<3->∀u,(vD t)[d]?=σ u->Ξ w (Ad g (o+(m*3+d)))=σ u:=λd j u l=>x _ u ((cV vD 3 (λ_=>rfl) ts e j).trans l);exact⟨g,o,cap,s,i,q 0 (by omega) _ rfl,q 1 (by omega) _ rfl,q 2 (by omega) _ rfl⟩
theorem Ng{v:υ}(i:aS w 14 v (Λ gs) (gs.flatMap zZ)){g:iz}(e:gs[m]?=σ g):∃b o cap,v=ψ (σ (Ad b o)) (Λ gs) cap/\b<w.heap.size/\∀d u,(zZ g)[d]?=σ u->Ξ w (Ad b (o+(m*14+d)))=σ u:=by obtain⟨b,o,cap,l,-,j,s⟩:=i.at (bY (aB _) (ah.mp e).1);exact⟨b,o,cap,l,j,λd u f=>s _ u ((cV zZ 14 (λ_=>rfl) gs e (by have:=(ah.mp f).1;simpa[zZ,jT]using this)).trans f)⟩
def zG(o:Option Nat):Int:=match o with
 |some i=>i
 |none=>-1
theorem PG{f:Type}{e:Δ f}{q:f->Bool}{a:f}(s:e[m]?=σ a)(l:q a=true)(y:∀d b,d<m->e[d]?=σ b->q b=false):e.findIdx? q=σ m:=by have⟨i,j⟩:=ah.1 s;exact aR.2 ⟨i,by rw[j];exact l,λd x=>by simp[y d _ x (List.getElem?_eq_getElem (by omega))]⟩
theorem PH{i:Type}{e:Δ i}{q:i->Bool}(s:¬m<Λ e)(j:∀d b,d<m->e[d]?=σ b->q b=false):e.findIdx? q=ν:=eA.2 λt l=>by
 have⟨d,f⟩:=cB l;exact j d t (by have:=(ah.1 f).1;omega) f
theorem PI{i:Type}{f:Δ i}{q:i->Bool}{a:i}(s:f[m]?=σ a)(l:q a=false)(x:∀d b,d<m->f[d]?=σ b->q b=false):∀d b,d<m+1->f[d]?=σ b->q b=false:=λd b y e=>by
 rcases lO d m with j|j
 . exact x d b j e
 . obtain rfl:d=m:=by omega
   rw[s]at e
   cases e
   exact l
theorem wW(y:Nf w p ts gs bz)(f:Γ):Calls prog 65 #[π (σ (Ad p 0)),θ f] w λr w'=>r=τ (ι κ (zG (ts.findIdx? λt=>ct t.aI f)))/\δ w.heap.size w w':=by
 obtain⟨tv,H,D,A,-⟩:=y.cell;have O:Ξ w (Ad p 0)=σ tv:=bB D 0;have N:=y.len.1;obtain⟨P,Q,rfl⟩:=aS.slice A;go_in;go_wp2;go_loopw[5] (λc wr=>∃d:Nat,d<=Λ ts/\c=ι κ d/\Hid (∀(m:Nat) (t:gP),m<d->ts[m]?=σ t->ct t.aI f=false)/\∃C,wr=w.drewN C) (λc _=>Λ ts - (intOf c).toNat);case atStart=>exact⟨0,aB _,rfl,ak (λm t M=>by omega),0,rfl⟩
 case round=>obtain⟨d,K,rfl,i,l,rfl⟩:=hrel;by_cases j:d<Λ ts;{have G:=aX.2 j;have⟨t,s⟩:=l9 j;obtain⟨g,o,F,e,I,R,-⟩:=G7 A s;cases e;have x:=ak s;have E:=iZ t.aI f;cases e:ct t.aI f;(all_goals rw[e]at E;go_wp2);{exact⟨⟨d+1,by omega,by go_num,ak (PI x.J e i.J),l,rfl⟩,by simp[intOf];omega⟩};go_ret;exact⟨by rw[PG x.J e i.J];rfl,below_drewN (aj _ _) l⟩};go_wp2;go_ret;exact⟨by rw[PH j i.J];rfl,below_drewN (aj _ _) l⟩
theorem CH(y:Nf w p ts gs bz)(u f:Γ):Calls prog 69 #[π (σ (Ad p 0)),θ u,θ f] w λr w'=>r=τ (ι κ (zG (gs.findIdx? λg=>ct g.uz u&&ct g.tj f)))/\δ w.heap.size w w':=by
 obtain⟨tv,E,F,-,A⟩:=y.cell;have Q:Ξ w (Ad p 1)=σ E:=bB F 1;have P:=y.len.2.1;obtain⟨R,T,rfl⟩:=aS.slice A;go_in;go_wp2;go_loopw[7] (λc wr=>∃d:Nat,d<=Λ gs/\c=ι κ d/\Hid (∀(m:Nat) (g:iz),m<d->gs[m]?=σ g->(ct g.uz u&&ct g.tj f)=false)/\∃D,wr=w.drewN D) (λc _=>Λ gs - (intOf c).toNat);case atStart=>exact⟨0,aB _,rfl,ak (λm t O=>by omega),0,rfl⟩
 case round=>
  obtain⟨d,N,rfl,i,l,rfl⟩:=hrel;by_cases j:d<Λ gs
  .have K:=aX.2 j;have⟨t,s⟩:=l9 j;have⟨g,o,I,e,M,C⟩:=Ng A s;cases e;have U:Ξ w (Ad g (o+d*14))=σ (θ t.uz):=C 0 _ rfl;have V:Ξ w (Ad g (o+d*14+1))=σ (θ t.tj):=C 1 _ rfl;have x:=ak s;have H:=iZ t.uz u;have G:=iZ t.tj f;cases e:ct t.uz u;(all_goals rw[e]at H;cases hf:ct t.tj f);all_goals
    rw[hf]at G;go_wp2;all_goals first
     |exact⟨⟨d+1,by omega,by go_num,ak (PI x.J (by rw[e,hf];rfl) i.J),l,rfl⟩,by simp[intOf];omega⟩
     | (go_ret
        exact⟨by rw[PG x.J (by rw[e,hf];rfl) i.J];rfl,below_drewN (aj _ _) l⟩)
  go_wp2;go_ret;exact⟨by rw[PH j i.J];rfl,below_drewN (aj _ _) l⟩
end
structure Bx (w0 w:ω)(L:Δ It):Prop where
 lo:δ w0.heap.size w0 w
 ok:∀a∈L,zE w0.heap.size w a
 ap:L.Pairwise λa b=>∀g,OC a=σ g->OC b≠σ g
section
variable {w0 w w':ω} {L L':Δ It} {a a':It} {b g cap n q z:Nat} {cs:Array υ} {t:TypeId} {v:υ} {xs ys:Δ υ}
theorem Bx.start(w:ω):Bx w w []:=⟨aj _ _,λ_ d=>(by cases d),.nil⟩
theorem Bx.call(S:Bx w0 w L)(e:δ w.heap.size w w'):Bx w0 w' L:=⟨S.lo.trans (e.mono S.lo.size),λa d=>qs (S.ok a d) λg f=>e.block g (pI (S.ok a d) f).1,S.ap⟩
theorem Bx.got(S:Bx w0 w L)(i:δ w.heap.size w w')(f:zE w.heap.size w' a):Bx w0 w' (a::L):=
 ⟨(S.call i).lo,λc e=>(bV.1 e).elim (λd=>d ▸ Ti f S.lo.size) ((S.call i).ok c),bE.2 ⟨λc e g d j=>by have:=(pI f d).2;have:=(pI (S.ok c e) j).1;omega,S.ap⟩⟩
theorem Bx.new(S:Bx w0 w L)(cs:Array υ)(t:TypeId):Bx w0 (w.alloc (ξ cs t)) (.inl (w.heap.size,cs,t)::L):=S.got ((aj _ _).alloc (ae _) _) ⟨az w _,ae _⟩
theorem Bx.nil(S:Bx w0 w L)(t:TypeId)(z:Nat):Bx w0 w (.inr (ψ ν 0 0,t,z,0,[])::L):=S.got (aj _ _) (eM _ _ _ _)
theorem Bx.perm(S:Bx w0 w L)(d:L.Perm L'):Bx w0 w L':=⟨S.lo,λc i=>S.ok c (d.mem_iff.mpr i),(d.pairwise_iff (λk g e f=>k g f e)).mp S.ap⟩
theorem Bx.drop(S:Bx w0 w (a::L)):Bx w0 w L:=⟨S.lo,λc d=>S.ok c (.tail _ d),(bE.mp S.ap).2⟩
theorem Bx.box(S:Bx w0 w L){i:Nat}(e:L[i]?=σ (.inl (b,cs,t))):w.heap[b]?=σ (ξ cs t (0,0))/\b<w.heap.size/\w0.heap.size<=b:=by have d:=S.ok _ (aq e);exact⟨d.1,aA d.1,d.2⟩
theorem Bx.row(S:Bx w0 w L){i:Nat}(d:L[i]?=σ (.inr (v,t,z,n,xs))):Φ w w0.heap.size t z v n xs:=S.ok _ (aq d)
theorem Bx.put(S:Bx w0 w (.inl (b,cs,t)::L))(i:Nat)(u:υ):Bx w0 (w.setCell (Ad b i) u) (.inl (b,cs.setIfInBounds i u,t)::L):=by
 have⟨l,e⟩:=S.ok _ (.head _);have f:=bE.mp S.ap;refine⟨S.lo.setCell e _,λc d=>?_,bE.mpr f⟩;rcases bV.mp d with rfl|d
 {exact⟨bq w b i _ _ u l,e⟩};exact qs (S.ok c (.tail _ d)) λg m=>aL _ _ _ _ (λj=>f.1 c d b rfl ((show g=b from j) ▸ m))
theorem Bx.app(S:Bx w0 w (.inr (v,t,z,n,xs)::L))(A:Φ w' w0.heap.size t z (ψ (σ (Ad g 0)) q cap) q ys)(s:w.grownBy w' (Ω v))(i:Ω v=σ g\/w.heap.size<=g):Bx w0 w' (.inr (ψ (σ (Ad g 0)) q cap,t,z,q,ys)::L):=by
 have j:=bE.mp S.ap;have C:=S.lo.size;have f:∀c∈L,∀k,OC c=σ k->w'.heap[k]?=w.heap[k]?/\k<w.heap.size:=λc d k f=>by
  have m:=(pI (S.ok c (.tail _ d)) f).1;exact⟨s.block k m (λe=>j.1 c d k e.symm f),m⟩
 refine⟨S.lo.grown s C (λk e=>(pI (S.ok _ (.head _)) e).2),λc d=>?_,bE.mpr ⟨λc d k e l=>?_,j.2⟩⟩;{rcases bV.mp d with rfl|d;{exact A};exact qs (S.ok c (.tail _ d)) λk y=>(f c d k y).1}
 have x:g=k:=bh e;subst x;rcases i with i|i
 {exact j.1 c d _ i l};have:=(f c d _ l).2;omega
theorem Bx.more{X:ω}{l:Nat}(S:Bx w0 w (.inr (v,t,z,n,xs)::L))(d:δ w.heap.size w X)(x:X.heap[l]?=σ (ξ cs t (0,0)))(s:n+1<=100000):Φ X w0.heap.size t z v n xs/\(∀e u,cs.toList[e]?=σ u->Ξ X ((Ad l 0).add e)=σ u)/\n+1<=maxLen/\(∀c,c<=1000->(n+1)*c<=140737488355328)/\w0.heap.size<=X.heap.size/\∀g cap w',Φ w' w0.heap.size t z (ψ (σ (Ad g 0)) (n+1) cap) (n+1) (xs++cs.toList)->X.grownBy w' (Ω v)->(Ω v=σ g\/g=X.heap.size)->Bx w0 w' (.inr (ψ (σ (Ad g 0)) (n+1) cap,t,z,n+1,xs++cs.toList)::L):=
 ⟨(S.call d).row (i:=0) rfl,World.news_of_block x,by unfold maxLen;omega,λc m=>ay (jr s m) (by decide),(S.call d).lo.size,λg cap w' f i j=>(S.call d).app f i (j.imp id λy=>by omega)⟩
def Ke.one(cs:Array υ)(t:TypeId):Ke:=⟨λv l h w=>h=l+1/\v=ψ (σ ⟨l,0,ν⟩) 1 1/\w.heap[l]?=σ (ξ cs t (0,0)),λ_ l _ _ _ h hb=>⟨h.1,h.2.1,(hb.block l (aA h.2.2)).trans h.2.2⟩⟩
theorem Nh{e:Program}{o:Oper}{d:Array Oper}{a:Act}{f:Exit->Act->ω->Prop}{l:Region.Mode}{i:Nat}(j:Region.ready l d x=[i])(E:d[i]?=σ o)(D:o.guard=ν)(A:o.wp e a s (λa' w'=>wpAny e l d f m (x.setIfInBounds i true) a' w') f):wpAny e l d f (m+1) x a s:=by refine⟨λC=>(by rw[C]at j;cases j),λF y=>?_⟩;rw[j]at y;obtain rfl:=bj.mp y;unfold wpOp;simp only[E];rw[aN (by simp[Region.wanted,D])];exact .inl A
end
def Ka(b:Int):Nat:=if b<0 then 0 else if 4096<b then 4096 else b.toNat
theorem Kc(b:Int)(w:ω):Calls prog 20 #[ι κ b] w λr w'=>∃q,r=τ (π (σ (Ad q 0)))/\w'.heap[q]?=σ (ξ #[ψ ν 0 0,ψ ν 0 0,ι κ (Ka b)] 100 (0,0))/\w.heap.size<=q/\δ w.heap.size w w':=by have l:(b<0/\Ka b=0)\/(¬b<0/\4096<b/\Ka b=4096)\/(¬b<0/\¬4096<b/\((Ka b:Nat):Int)=b):=(by unfold Ka;by_cases e:b<0;{exact .inl ⟨e,by rw[aN e]⟩};by_cases d:4096<b;{exact .inr (.inl ⟨e,d,by rw[aH e,aN d]⟩)};exact .inr (.inr ⟨e,d,by rw[aH e,aH d];omega⟩));rcases l with⟨j,d⟩|⟨j,d,i⟩|⟨j,d,i⟩;{have f:=ak d;go_in;go_wp2;go_ret;exact⟨_,rfl,by rw[f.J];exact az _ _,ae _,(aj _ _).alloc (ae _) _⟩};{have f:=ak i;clear i;go_in;go_wp2;go_ret;exact⟨_,rfl,by rw[f.J];exact az _ _,ae _,(aj _ _).alloc (ae _) _⟩};have f:=ak i;clear i;go_in;go_wp2;go_ret;exact⟨_,rfl,by rw[f.J];exact az _ _,ae _,(aj _ _).alloc (ae _) _⟩
