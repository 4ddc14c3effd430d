import Derived.Test.YtfeckmaleonjjaaGreatDoorFCD
set_option maxHeartbeats 0
set_option maxRecDepth 100000
namespace Go.Proofs.YtfeckmaleonjjaaGreatDoor
open List renaming length→Λ
open Go.RowKit
open _root_.Go.Proofs.Tryz
open Option renaming some→σ,none→ν
open Go.IntKind renaming i64→κ
open Go.Obj renaming cells→ξ
open Go renaming World→ω,Value→υ
open Go.Value renaming int→ι,string→θ,slice→ψ,pointer→π
variable{w l g:Nat}{p t s b:υ}{m:ω}{x:Δ υ}{v:Nat->Prop}{n:Δ Nat}{i:TypeId}{u:Obj}
def Jp:fE->Bool
 |.inl c=>!c.bH&&decide (c.n=1)
 |.inr _=>false
def qw(sh:Δ Nat)(cs:Δ (Δ aF))(ρ:Nat):Δ aF:=sh.map λs=>(cs.getD s []).getD ρ fj
def pJ(F:Δ aF->fE)(sh:Δ Nat)(cs:Δ (Δ aF))(i:Nat):Δ (Δ aF):=((List.range i).filter λρ=>Jp (F (cj cs ρ))).map (qw sh cs)
theorem vQ{w1:ω}{r:Nat}(a:w1.heap[r]?=σ (ξ #[p,t,s,b] i (0,0))):w1.cell? ⟨r,0,ν⟩=σ p/\w1.cell? ⟨r,1,ν⟩=σ t/\w1.cell? ⟨r,2,ν⟩=σ s/\w1.cell? ⟨r,3,ν⟩=σ b:=by simp[World.cell?,a]
theorem He(b a:Bool)(c:Int)(d:ω):(binOp .neq 305 (.agg #[.bool b,ι κ c,θ ⟨#[]⟩,.bool a]) (.agg #[.bool false,ι κ 1,θ ⟨#[]⟩,.bool false])).run prog d=.ok (.bool (b||!decide (c=1)||a)) d:=by go_simp;by_cases e:c=1<;>cases b<;>cases a<;>simp[e]
theorem Jq(c:Δ aF->fE)(d:Δ Nat)(a:Δ (Δ aF))(b:Nat):pJ c d a (b+1)=pJ c d a b++(if Jp (c (cj a b))then[qw d a b]else[]):=by unfold pJ;rw[qz,ou,cT];congr 1;by_cases e:Jp (c (cj a b))=true;{simp[e]};simp[e]
theorem Za(b:Δ aF->fE)(d:Δ Nat)(c:Δ (Δ aF))(a:Nat):(pJ b d c a).length<=a:=by unfold pJ;rw[bk];exact ay (gX _ _) (by simp)
theorem jM.sub{M':Nat->Prop}(d:jM v p)(e:∀a,M' a->v a):jM M' p:=λb i c g f=>d b i c g (e _ f)
theorem vh{w1 w2:ω}{base:Nat}{size:Nat}(b:w1.ownsRow base i size p w x)(f:∀a,p.ownBlock=σ a->w2.heap[a]?=w1.heap[a]?):w2.ownsRow base i size p w x:=by
 refine⟨b.1,?_⟩;rcases b.2 with e|⟨q,d,cur,c,j,g,r⟩
 {exact .inl e};exact .inr ⟨q,d,cur,c,j,(f q (by rw[c];rfl)).trans g,r⟩
theorem lY.restart{w2:ω}{r base:Nat}{kv cv:υ}{vs:Δ υ}{L:Δ (Δ aF)}{k:Int}(a:lY m m r base kv cv vs vs L k)(c:Below m.heap.size m w2):lY w2 w2 r base kv cv vs vs L k:=by have b:=a.aU c;exact⟨b.jy,b.own,λf e g d=>.inl ⟨f,e,d⟩,bu.refl _ _,a.NW,a.Jm,aA b.jy⟩
theorem lY.from{w2 wr:ω}{r base:Nat}{kv cv:υ}{vs:Δ υ}{L:Δ (Δ aF)}{k:Int}(a:lY w2 wr r base kv cv vs x L k)(b:Below m.heap.size m w2)(i:r<m.heap.size):lY m wr r base kv cv vs x L k:=
 ⟨a.jy,a.own,λl j f g=>(a.fresh l j f g).imp id (λe=>ay b.size e),⟨a.keep.os.trans b.os,a.keep.tape.trans b.tape,a.keep.output.trans b.output,ay b.size a.keep.size,λd c=>(a.keep.block d ⟨aw c.1 b.size,c.2⟩).trans (b.block d c.1)⟩,a.NW,a.Jm,i⟩
theorem Rb(c:aF):∀b∈fD c,b.oneCell'=true:=by intro b a;simp[fD]at a;rcases a with rfl|rfl|rfl<;>rfl
theorem aS.kept{e:Nat->Prop}{a w':ω}{size j:Nat}{d:υ}{m:Δ υ}(f:aS a size d j m)(w:jM e d)(x:a.heap.size<=w'.heap.size)(s:∀b,b<a.heap.size->¬e b->w'.heap[b]?=a.heap[b]?):aS w' size d j m:=by
 refine⟨f.1,?_⟩;rcases f.2 with p|⟨c,l,o,g,n,u,t⟩
 {exact .inl p};refine .inr ⟨c,l,o,g,n,by omega,λi v=>?_⟩;rw[<- t i v];exact dx (w:=a) (a:=⟨c,l+i,ν⟩) (s c u (w _ _ _ g))
theorem iJ.kept{w':ω}{L:Δ (Δ aF)}(g:iJ v m p L)(e:m.heap.size<=w'.heap.size)(d:∀a,a<m.heap.size->¬v a->w'.heap[a]?=m.heap[a]?):iJ v w' p L:=by obtain⟨b,vs,i,j⟩:=g;refine⟨b,vs,i.kept b e d,λs f o=>?_⟩;obtain⟨t,l,n,c⟩:=j s f o;exact⟨t,l,n.kept c e d,c⟩
theorem lY.seen{w1 wr w3:ω}{r base a:Nat}{kv:υ}{Jl vs:Δ υ}{L:Δ (Δ aF)}{k:Int}(d:lY w1 wr r base kv (ψ (σ ⟨w,0,ν⟩) l g) Jl vs L k)(m:Λ L=l)(s:a<l)(i:vs[a]?=σ p)(f:(wr.alloc u).drew.grownBy w3 p.ownBlock) :
 (∃o,w3.cell? ⟨w,a,ν⟩=σ o)/\w3.frozen? ⟨w,a,ν⟩=false/\w3.cell? ⟨r,1,ν⟩=σ (ψ (σ ⟨w,0,ν⟩) l g):=by have e:=d.aU (aP ((aj wr.heap.size wr).alloc (ae _) u));have b:=eG e.own.row f (λk j c=>d.own.off a p k i j (by simpa using c));rw[m]at b;have n:w3.heap[r]?=σ (ξ #[kv,ψ (σ ⟨w,0,ν⟩) l g,ι κ k] 185 (0,0)):=(f.block r (aA e.jy) (λc=>d.Jm p (aq i) c.symm)).trans e.jy;refine⟨?_,b.frozenAt a,(bN n).2.1⟩;rw[b.cellAt a (by omega)];exact⟨_,af (by have:=b.1;omega)⟩
theorem share{A b:ω->Prop}{c:Prop}(e:(∀a,Hid (A a)->b a)->c)(d:∀a,Hid (A a)->b a):c:=e d
theorem Lf{l i:ω}{lo q r base m:Nat}{kv cv:υ}{vs:Δ υ}{a:Δ (Δ aF)}{ok:Δ aF->Prop}{g:Δ aF->fE}{v:Δ (Δ aF)}(hw:fN l lo s ok g)(j6:lH lo l.heap.size l i)(hF:∀row,ok row->∀e,g row=.inl e->xy e)
 (ud:lR i t n) (ba:jM (nI r cv vs) t) (Jr:∀M∈n,M<Λ a) (a0:0<Λ n) (c6:Λ n<=5) (hb:iJ (nI r cv vs) i b a) (GX:∀e∈a,Λ e=m) (h0:0<Λ a) (h5:Λ a<=5) (bn:0<m) (T:m<=64) (oI:∀N,N<m->ok (cj a N))
 (f:lY i i r base kv cv vs vs (dq (Λ n) v) (Λ v)) (b8:Λ v+m<=1000) (vH:base<=i.heap.size) :
 Calls prog 113 #[.agg #[π (σ ⟨q,0,ν⟩),t,s],π (σ ⟨r,0,ν⟩),b] i λw w'=>w=.returned (.tuple #[])/\∃Dr,lY i w' r base kv cv vs Dr (dq (Λ n) (v++pJ g n a m)) (v++pJ g n a m).length:=by
 obtain⟨bH,kF,rfl,hE,hC⟩:=hw;obtain⟨j0,ce,ck,cl,cn⟩:=gq Tryz.Fu;obtain⟨sg,so,nZ,z,-,-,-⟩:=aS.at ud a0;subst z;have am:=f.own.row;rw[cG]at am;obtain⟨ca,E,rfl,bl,-⟩:=cR am;obtain⟨y,rfl,-⟩:=bl a0;clear am bl;obtain⟨W,hW⟩:∃W,W=i.alloc (ξ #[π (σ ⟨q,0,ν⟩),ψ (σ ⟨sg,so,ν⟩) (Λ n) nZ,.func (.func bH) #[] kF] 176):=⟨_,rfl⟩;have qd:Below i.heap.size i W:=by rw[hW];exact(aj _ _).alloc (ae _) _
 have bi:W.heap[i.heap.size]?=σ (ξ #[π (σ ⟨q,0,ν⟩),ψ (σ ⟨sg,so,ν⟩) (Λ n) nZ,.func (.func bH) #[] kF] 176 (0,0)):=by rw[hW];exact az i _
 obtain⟨c0,KP⟩:∃e,a[0]?=σ e:=⟨a[0],af h0⟩;have bb:=GX c0 (aq KP);obtain⟨bg,bo,vj,u0,z,fZ,P,bz⟩:=hb.batch.UR KP;subst z;obtain⟨ua,xv,z⟩:=aS.slice bz;subst z;rw[bb]at P;have ar:=(qd.cell (p:=⟨bg,bo+0,ν⟩) fZ).trans P;rw[hW]at ar;rw[kU]at ar;have c5:(0:Int)<Λ a:=by omega
 have HU:=ak (Q6 m (by omega) W);have CF:=ak (λ(u:ω) (ax:Below i.heap.size i u) rv (Kf:lR u rv (List.range m))=>hC u ⟨ay j6.1 ax.size,λk R B=>(ax.block k (aw B j6.1)).trans (j6.2 k R B)⟩ _ a rv (List.range m) (hb.batch.aU ax (ae _)) Kf (λd K e C=>by rw[GX e C];exact mD.mp K) (by rw[jZ];exact T) (λd K=>oI d (mD.mp K)));have HW:=ak hW;have E6:=ak qd;have a9:=ak bi;have a3:=ak (λN (h:N<m) e C=>hF _ (oI N h) e C);have HR:=ak f;have a6:=ak ud;have a7:=ak ba;have Qc:=ak Jr;have HB:=ak hb;have OG:=ak GX;have al:Hid (∀u,nI r (ψ (σ ⟨y,0,ν⟩) (Λ n) E) vs u->u<i.heap.size):=ak (λu cb=>by
  rcases cb with w|w|⟨b1,I,w⟩
  . have:=f.lr;omega
  . exact(f.own.row.lt u w).2
  . obtain⟨c,hi⟩:=cB I
    exact(f.own.each.lt hi w).2)
 have EJ:=f.lr;unfold Enters at hE;clear bz bb KP P hC j6 hF ud ba Jr hb GX oI f hW qd bi;go_in;go_wp2_with fail;rw[<- HW.J];refine HU.J.mono ?_;rintro w w1 ⟨rv,rfl,Kf,cI⟩;have Bi:=E6.J.trans (cI.mono E6.J.size);have an:=(cI.block _ (aA a9.J)).trans a9.J;obtain⟨y0,F,y2⟩:=bN an;have qt:lR w1 rv (List.range m):=by unfold lR;rw[jZ];exact aS.dE Kf
 have a2:=ak (CF.J w1 Bi rv qt);obtain⟨ra,Ef,rfl,-,-⟩:=cR Kf;have iP:=ak Bi;have bc:=ak an;clear Kf cI qt Bi HU CF ar an;go_wp2_with fail;refine a2.J.mono ?_;rintro w w2 ⟨ov,rfl,D,cW⟩;rw[jZ]at D;have CB:=iP.J.trans (cW.mono iP.J.size);have bd:=(cW.block _ (aA bc.J)).trans bc.J;obtain⟨oa,cy,rfl,bt,-⟩:=cR D;obtain⟨og,rfl,cf⟩:=bt bn;have be:=(D.lt og rfl).2;have a5:=ak D;have fM:=ak CB;have ao:=ak bd;have qY:=iP.J.size;have b5:=ak (HR.J.restart CB);have HT:=ak (λi=>xF true i);have a8:Hid (CU (.inl (iy true))=.agg #[.bool false,ι κ 1,θ ⟨#[]⟩,.bool false]):=ak rfl;rw[a8.J]at HT;clear D cW CB bt a2 bd y0 F y2 a8;go_wp2_with fail;go_loopw[23] (λe wr=>∃(c:Nat) (A:Δ υ),c<=m/\e=ι κ c/\Hid (lY w2 wr r base kv (ψ (σ ⟨y,0,ν⟩) (Λ n) E) vs A (dq (Λ n) (v++pJ g n a c)) (v++pJ g n a c).length)) (λe _=>m - (intOf e).toNat);case atStart=>exact⟨0,vs,aB _,rfl,by simpa[pJ]using b5⟩
 case round=>
  obtain⟨c,A,hi,rfl,Y⟩:=hrel;by_cases cK:c<m
  .have gY:(c:Int)<m:=(by omega);have D:=vh a5.J (w2:=wr) (λc4 hg=>Y.J.old (by cases hg;exact be) (λT=>by cases hg;have h9:og<i.heap.size:=al.J _ T;omega));have gW:((List.range m).map λN=>g (cj a N))[c]?=σ (g (cj a c)):=(by rw[bp,lI cK];rfl);obtain⟨V,F,X,Q,x,-⟩:=jD (g (cj a c));obtain⟨⟨P,d1,d2,d3⟩,-⟩:=lX D gW x;have ai:=ak (Jq g n a c);clear D gW;have rL:(Jp (g (cj a c))=false/\((Q=true/\V=false/\F=0/\X=⟨#[]⟩)\/(Q=false/\V=true/\F=0/\X=⟨#[]⟩)\/(Q=false/\V=false/\F=0/\X=⟨#[]⟩)))\/(Jp (g (cj a c))=true/\Q=false/\V=false/\F=1/\X=⟨#[]⟩):=by
    cases hf:g (cj a c)with
    |inr w=>rw[hf]at x;simp[km]at x;exact .inl ⟨rfl,.inl ⟨x.2.2.2,x.1,x.2.1.symm,x.2.2.1.symm⟩⟩
    |inl e=>
     rw[hf]at x;rcases a3.J c cK e hf with rfl|rfl|rfl<;>(simp[km,fj,ox]at x;obtain⟨rfl,rfl,rfl,rfl⟩:=x)
     {exact .inl ⟨rfl,.inr (.inl ⟨rfl,rfl,rfl,rfl⟩)⟩};{exact .inl ⟨rfl,.inr (.inr ⟨rfl,rfl,rfl,rfl⟩)⟩};exact .inr ⟨rfl,rfl,rfl,rfl,rfl⟩
   clear x;obtain⟨H,ym⟩:∃H,H=wr.alloc (ξ #[.bool V,ι κ F,θ X,.bool Q] 305):=⟨_,rfl⟩;have lu:Below wr.heap.size wr H:=(by rw[ym];exact(aj _ _).alloc (ae _) _);have ad:H.heap[wr.heap.size]?=σ (ξ #[.bool V,ι κ F,θ X,.bool Q] 305 (0,0)):=(by rw[ym];exact az wr _);have ab:=ak (λ(j:ω) (h3:Below H.drew.heap.size H.drew j)=>(show _/\_/\_ from⟨vQ ((h3.block _ (aA (w:=H) ad)).trans ad),Y.J.aU ((aP lu).trans (h3.mono lu.size)),(aP lu).trans (h3.mono lu.size)⟩));have yn:=ak ym;obtain⟨p0,p1,p2,p3⟩:=vQ ad;clear ym lu ad;rcases rL with⟨hk,cd⟩|⟨hk,rfl,rfl,rfl,rfl⟩
   .have HN:Hid (pJ g n a (c+1)=pJ g n a c):=ak (by rw[ai.J,hk];simp);clear hk;rcases cd with⟨rfl,rfl,rfl,rfl⟩|⟨rfl,rfl,rfl,rfl⟩|⟨rfl,rfl,rfl,rfl⟩
    (case' inl=>have U:=He false true 0);(case' inr.inl=>have U:=He true false 0);(case' inr.inr=>have U:=He false false 0);all_goals simp only[show decide ((0:Int)=1)=false from rfl,Bool.or_false,Bool.or_true,Bool.not_false]at U;go_wp2_with fail;rw[<- yn.J];go_region_with(go_at_call 161;refine(HT.J _).mono ?_;rintro w j ⟨rfl,gO⟩;obtain⟨⟨o0,o1,o2,o3⟩,Z,-⟩:=ab.J j gO;have G:=ak Z;clear gO Z);all_goals (try go_wp2_with fail);exact⟨⟨c+1,A,cK,by go_num,by rw[HN.J];exact G⟩,by simp[intOf];omega⟩
   have HN:Hid (pJ g n a (c+1)=pJ g n a c++[qw n a c]):=ak (by rw[ai.J,hk];simp);clear hk;have U:=He false false 1;simp only[decide_true,Bool.or_false,Bool.not_true]at U;go_wp2_with fail;rw[<- yn.J];obtain⟨o,ac⟩:∃o,o=v++pJ g n a c:=⟨_,rfl⟩;have b9:Λ o<=Λ v+c:=(by rw[ac,au];have:=Za g n a c;omega);have a4:Hid (v++pJ g n a (c+1)=o++[qw n a c]):=ak (by rw[HN.J,ac,cC]);rw[<- ac]at ab Y;clear HN ac ai;have a1:=ak (λj (h:lY w2 j r base kv (ψ (σ ⟨y,0,ν⟩) (Λ n) E) vs A (dq (Λ n) o) (Λ o))=>bN ((h.old (aA ao.J) (λT=>by have h9:=al.J _ T;omega)).trans ao.J));apply share (A:=λj=>lY w2 j r base kv (ψ (σ ⟨y,0,ν⟩) (Λ n) E) vs A (dq (Λ n) o) (Λ o));{intro cp;go_region_with(go_at_call 161;refine(HT.J _).mono ?_;rintro w j ⟨rfl,gO⟩;obtain⟨⟨o0,o1,o2,o3⟩,Z,-⟩:=ab.J j gO;have G:=ak Z;clear gO Z);all_goals exact cp j G};intro j (G:Hid (lY w2 j r base kv (ψ (σ ⟨y,0,ν⟩) (Λ n) E) vs A (dq (Λ n) o) (Λ o)));obtain⟨-,v1,-⟩:=a1.J j G.J;go_wp2_with fail;clear p0 p1 p2 p3 P d1 d2 d3 v1 U ab a1 yn Y;go_loopw[35] (λe wx=>∃(p:Nat) (vs2:Δ υ),p<=Λ n/\e=ι κ p/\Hid (lY w2 wx r base kv (ψ (σ ⟨y,0,ν⟩) (Λ n) E) vs vs2 (pU (dq (Λ n) o) (dq (Λ n) [qw n a c]) p) (Λ o))) (λe _=>Λ n - (intOf e).toNat);(case atStart=>exact⟨0,A,aB _,rfl,by unfold pU;simpa using G⟩);case round=>
    obtain⟨p,vs2,hj,rfl,YO⟩:=hrel;by_cases O:p<Λ n;{have cr:(p:Int)<Λ n:=(by omega);have f:=YO.J;obtain⟨M,hs⟩:∃M,n[p]?=σ M:=⟨_,af O⟩;have ci:=Qc.J M (aq hs);have cS:(M:Int)<Λ a:=(by omega);obtain⟨e,C⟩:∃e,a[M]?=σ e:=⟨_,af ci⟩;have uq:=OG.J e (aq C);obtain⟨d,K⟩:∃d,e[c]?=σ d:=⟨_,af (by omega)⟩;have aC:∀u,u<i.heap.size->¬nI r (ψ (σ ⟨y,0,ν⟩) (Λ n) E) vs u->wr.heap[u]?=i.heap[u]?:=λu R B=>(f.old (aw R fM.J.size) B).trans (fM.J.block u R);have ap:i.heap.size<=wr.heap.size:=ay fM.J.size f.keep.size;obtain⟨c7,c8,cu,z,s0⟩:=lR.get (show lR wr _ n from aS.kept a6.J a7.J ap aC) hs;cases z;obtain⟨cU,c3,cN,u',z,-,b0,XV⟩:=(HB.J.kept ap aC).batch.UR C;cases z;obtain⟨cg,co,Rc,rfl,c0,c1,c2⟩:=dW.get XV K;rw[uq]at b0;obtain⟨l,ag⟩:∃l,l=o.map λr=>r.getD p fj:=⟨_,rfl⟩;have tU:Λ l<=1000:=(by rw[ag,bk];omega);have ha:(pU (dq (Λ n) o) (dq (Λ n) [qw n a c]) p)[p]?=σ l:=(by rw[ag];exact(Jh (by rw[cG,cG]) (by rw[cG];exact O)).trans (mP O));obtain⟨b1,I,-⟩:=f.own.each.cells ha;have aT:=f.own.each.own p b1 _ I ha;obtain⟨aa,Re,rfl,-,b7⟩:=cR aT;have kz:=f.own.row;rw[vf (by rw[cG,cG]) (by rw[cG];exact hj),cG]at kz;have g1:wr.cell? ⟨y,p,ν⟩=σ (ψ aa (Λ l) Re):=(kz.cellAt p (by omega)).trans I;obtain⟨-,r1,-⟩:=bN f.jy;have bx:[d]=[qw n a c].map λr=>r.getD p fj:=(by simp[qw,List.getD,hs,C,K]);have PK:=ak (λ(g2 av:Nat) (j:ω) (R:j.ownsRow base 263 3 (ψ (σ ⟨g2,0,ν⟩) (Λ l+1) av) (Λ l+1) (bW l++fD d)) (B:(wr.alloc (ξ #[.bool d.bH,ι κ d.n,θ d.s] 263 (0,0))).drew.grownBy j (Value.slice aa (Λ l) Re).ownBlock) (h3:(Value.slice aa (Λ l) Re).ownBlock=σ g2\/g2=wr.heap.size+1)=>lY.UW (f.aU (aP (aj _ _))) (by rw[vf (by rw[cG,cG]) (by rw[cG];exact hj),cG]) I ha (c:=d) (g:=g2) (gcap:=av) (w3:=j) (o:=(ξ #[.bool d.bH,ι κ d.n,θ d.s] 263 (0,0))) R B h3);rw[Jg (by rw[ag];exact mP O) (by rw[bx];exact mP O) (by rw[cG,cG])]at PK;have b6:=ak (λ(j:ω) (B:(wr.alloc (ξ #[.bool d.bH,ι κ d.n,θ d.s] 263 (0,0))).drew.grownBy j (Value.slice aa (Λ l) Re).ownBlock)=>f.seen (by rw[vf (by rw[cG,cG]) (by rw[cG];exact hj),cG]) O I (w3:=j) B);have TC:=ak ((aT.alloc (ξ #[.bool d.bH,ι κ d.n,θ d.s] 263 (0,0))).drew);have vB:=ak (World.news_of_block (w:=(wr.alloc (ξ #[.bool d.bH,ι κ d.n,θ d.s] 263 (0,0))).drew) (B:=wr.heap.size) (az wr (ξ #[.bool d.bH,ι κ d.n,θ d.s] 263 (0,0))));have cc:base<=wr.heap.size:=(by omega);have L5:Hid ((wr.alloc (ξ #[.bool d.bH,ι κ d.n,θ d.s] 263 (0,0))).drew.heap.size=wr.heap.size+1):=ak (by show(wr.heap.push _).size=_;rw[gJ]);have cq:=(kz.lt y rfl).2;have cx:=aA f.jy;have XG:Hid (Λ l+1<=maxLen):=ak (by unfold maxLen;omega);have b4:Hid ((Λ l+1)*32<=140737488355328):=ak (by omega);have Sp:Hid (base<=(wr.alloc (ξ #[.bool d.bH,ι κ d.n,θ d.s] 263 (0,0))).drew.heap.size):=ak (by rw[L5.J];omega);clear kz f aT I ha ag bx XV K C hs aC uq;clear a3 HR a6 a7 Qc HB OG al a5 iP fM ao HT YO G a4 cc ap b8 b9 b7 qY be hE fZ cf tU vH EJ h0 h5 bn T a0 hi hj;go_wp2_with fail;go_region_law(refine step_append_lies _ rfl (.tmp 51) (.tmp 59) 247 rfl base 263 j0 _ 3 32 underlying247 ce ck cl cn rfl (by decide) (ψ aa (Λ l) Re) (Λ l) (bW l) rfl TC.J ⟨wr.heap.size,0,ν⟩ 1 1 (fD d) rfl rfl vB.J (Rb d) (by decide) XG.J b4.J Sp.J (wr.heap.size+1) L5.J ?_;intro g2 av j oN kH vP _;obtain⟨⟨xx,P⟩,fz,r3⟩:=b6.J j kH;have FR:=ak oN;have b2:=ak kH;have EK:=ak vP;clear oN kH vP);all_goals have b3:=ak (PK.J _ _ _ FR.J b2.J EK.J).1;(try go_wp2_with fail);go_roundw;(case rel=>exact⟨p+1,_,by omega,by go_num,b3⟩);case measure=>simp[intOf];omega}
    obtain rfl:p=Λ n:=by omega
    have f:=YO.J;have e9:pU (dq (Λ n) o) (dq (Λ n) [qw n a c]) (Λ n)=dq (Λ n) (o++[qw n a c]):=by
     rw[<- Gb];unfold pU;rw[iK (by rw[cG];exact ae _),cM,aQ (by rw[sO (by rw[cG,cG]),cG];exact ae _)]
    rw[e9]at f;obtain⟨-,-,r2⟩:=bN f.jy;have rz:wr.frozen? ⟨r,2,ν⟩=false:=by simp[World.frozen?,f.jy]
    have hK:(Λ o:Int)+1<=1000:=by omega
    have HE:Hid (lY w2 (wr.setCell ⟨r,2,ν⟩ (ι κ ((Λ o:Int)+1))) r base kv (ψ (σ ⟨y,0,ν⟩) (Λ n) E) vs vs2 (dq (Λ n) (v++pJ g n a (c+1))) (v++pJ g n a (c+1)).length):=ak (by
     have h8:=f.count ((Λ o:Int)+1);rw[a4.J,au];simpa using h8)
    clear e9 f;go_wp2_with fail
    first
    |exact⟨⟨c+1,vs2,cK,by go_num,HE⟩,by simp[intOf];omega⟩
    | (go_roundw
       case rel=>exact⟨c+1,vs2,cK,by go_num,HE⟩
       case measure=>simp[intOf];omega)
  obtain rfl:c=m:=(by omega);have HE:=ak (Y.J.from fM.J EJ);go_wp2_with fail;refine bodyPost_end (results_none rfl _ _ _) rfl ?_;exact⟨rfl,A,HE.J⟩
def je(F:Δ aF->fE)(sh:Δ Nat)(ry:Δ (Δ aF)):Δ (Δ aF):=(ry.filter λrow=>Jp (F row)).map λrow=>sh.map λs=>row.getD s fj
theorem El(a:Δ aF->fE)(b:Δ Nat)(c d:Δ (Δ aF)):je a b (c++d)=je a b c++je a b d:=by unfold je;rw[ou,cT]
theorem MC(b:Δ aF->fE)(c:Δ Nat)(a:Δ (Δ aF)):(je b c a).length<=Λ a:=by unfold je;rw[bk];exact gX _ _
theorem Zb{ry:Δ (Δ aF)}{row:Δ aF}(a:ry[g]?=σ row)(b:l<w):((dq w ry).getD l []).getD g fj=row.getD l fj:=by simp only[List.getD,mP b,Option.getD_some,List.getElem?_map,a,Option.map_some]
theorem Js{ry:Δ (Δ aF)}{row:Δ aF}(b:ry[l]?=σ row)(d:Λ row=w):cj (dq w ry) l=row:=by apply dr;intro a;unfold cj;rw[bp];by_cases c:a<w;{rw[mP c];simp[List.getD,b,List.getElem?_eq_getElem (show a<Λ row by omega)]};rw[bM (by rw[cG];omega),bM (by omega)];rfl
theorem Jt{e:Δ aF->fE}{c:Δ Nat}{d:Nat}{ry:Δ (Δ aF)}(i:∀r∈ry,Λ r=d)(j:∀b∈c,b<d):∀a,a<=Λ ry->pJ e c (dq d ry) a=je e c (ry.take a)
 |0,_=>by simp[pJ,je]
 |a+1,hi=>by
   have f:ry[a]?=σ ry[a]:=af (by omega);have l:=Js f (i _ (ej (by omega)));rw[Jq,Jt i j a (by omega),bS,f,El,l];congr 1;have n:qw c (dq d ry) a=c.map λb=>ry[a].getD b fj:=by
    unfold qw;exact fT (λb m=>Zb f (j b m))
   unfold je;rw[n];by_cases g:Jp (e ry[a])=true
   . simp[g]
   . simp[g]
theorem Zc{F:Δ aF->fE}{ry:Δ (Δ aF)}(a:∀r∈ry,Λ r=w)(c:∀b∈n,b<w):pJ F n (dq w ry) (Λ ry)=je F n ry:=by rw[Jt a c _ (ae _),eF]
theorem Az(a:ω)(b c d:Obj):((a.alloc b).alloc c |>.alloc d).heap[a.heap.size]?=σ b/\((a.alloc b).alloc c |>.alloc d).heap[a.heap.size+1]?=σ c/\((a.alloc b).alloc c |>.alloc d).heap[a.heap.size+2]?=σ d:=by
 have g:(a.alloc b).heap.size=a.heap.size+1:=by simp
 have i:((a.alloc b).alloc c).heap.size=a.heap.size+2:=by simp
 have e:=az (a.alloc b) c;have f:=az ((a.alloc b).alloc c) d;rw[g]at e;rw[i]at f;exact⟨(fY _ d (by omega)).trans ((fY _ c (by omega)).trans (az a b)),(fY _ d (by omega)).trans e,f⟩
section
variable {w1 wr w2:ω} {r base:Nat} {kv cv:υ} {Jl vs vs2:Δ υ} {L L2:Δ (Δ aF)} {k k2:Int}
theorem lY.here(a:lY w1 wr r base kv cv Jl vs L k):lY wr wr r base kv cv vs vs L k:=⟨a.jy,a.own,λd c _ b=>.inl ⟨d,c,b⟩,bu.refl _ _,a.NW,a.Jm,aA a.jy⟩
theorem lY.aiE(b:lY w1 wr r base kv cv Jl vs L k)(e:nI r cv vs w):nI r cv Jl w\/w1.heap.size<=w:=by rcases e with a|a|⟨g,f,a⟩;{exact .inl (.inl a)};{exact .inl (.inr (.inl a))};exact(b.fresh g f w a).imp (λ⟨i,c,d⟩=>.inr (.inr ⟨i,c,d⟩)) id
theorem lY.chain(b:lY w1 wr r base kv cv Jl vs L k)(a:lY wr w2 r base kv cv vs vs2 L2 k2):lY w1 w2 r base kv cv Jl vs2 L2 k2:=
 ⟨a.jy,a.own,λn m e j=>by
  rcases a.fresh n m e j with⟨o,g,i⟩|c
  . exact b.fresh o g e i
  . exact .inr (ay b.keep.size c),b.keep.trans ⟨a.keep.os,a.keep.tape,a.keep.output,a.keep.size,λf d=>a.keep.block f ⟨aw d.1 b.keep.size,λl=>by
    rcases b.aiE l with c|c
    . exact d.2 c
    . exact absurd d.1 (by omega)⟩⟩,a.NW,a.Jm,b.lr⟩
end
theorem lY.inside{w1 wr:ω}{r base:Nat}{kv cv:υ}{Jl vs:Δ υ}{L:Δ (Δ aF)}{k:Int}(b:lY w1 wr r base kv cv Jl vs L k)(e:base<=r)(c:nI r cv vs w):base<=w/\w<wr.heap.size:=by rcases c with rfl|a|⟨i,f,a⟩;{exact⟨e,aA b.jy⟩};{exact b.own.row.lt w a};have⟨g,d⟩:=cB f;exact b.own.each.lt d a
theorem rJ.away{vs:Δ υ}{L:Δ (Δ aF)}{M:Nat->Prop}(a:rJ m w p vs L)(i:∀e,M e->e<w):iJ M m p L:=
 ⟨λb n f d c=>by have:=(a.row.lt b.block (by rw[d];rfl)).1;have:=i _ c;omega,vs,aS.dE a.row,λs f l=>by
  have⟨o,g,j⟩:=a.each.cells l;exact⟨o,g,j,λb n f d c=>by have:=(a.each.lt (g:=b.block) g (by rw[d];rfl)).1;have:=i _ c;omega⟩⟩
theorem Zd{a:Δ aF->fE}{c b:Δ (Δ aF)}(d:w<=l):je a n (c++b.take w)++je a n ((b.drop w).take (l - w))=je a n (c++b.take l):=by rw[<- El,cC];congr 2;rw[show l=w+(l - w)by omega,List.take_add];congr 2;omega
theorem Rf:∀{a:Δ (Δ (Δ aF))},(∀b∈a,0<Λ b)->Λ a<=Λ a.flatten
 |[],_=>by simp
 |b::l,h=>by
   have e:=Rf (λd c=>h d (eT _ c));have f:=h b (ot ..);rw[List.flatten_cons,au,cw];omega
theorem oi.count{S:Nat}{a:Δ (Δ (Δ aF))}(c:oi S a):Λ a<=Λ a.flatten:=Rf (λb d=>by obtain⟨f,e⟩:=cB d;exact(c f b e).1)
theorem Fv{wr:ω}{a c:υ}(d:wr.heap[w]?=σ (ξ #[p,t,s] i (0,0))):(((wr.setCell ⟨w,0,ν⟩ b).setCell ⟨w,1,ν⟩ a).setCell ⟨w,2,ν⟩ c).heap[w]?=σ (ξ #[b,a,c] i (0,0)):=
 bq _ w 2 _ _ c (bq _ w 1 _ _ a (bq _ w 0 _ _ b d))
theorem yO{wr:ω}{k:Nat}(a:k≠w):(((wr.setCell ⟨w,0,ν⟩ p).setCell ⟨w,1,ν⟩ t).setCell ⟨w,2,ν⟩ s).heap[k]?=wr.heap[k]?:=
 (aL _ _ _ _ a).trans ((aL _ _ _ _ a).trans (aL _ _ _ _ a))
structure kC (W wr:ω)(r g0 n:Nat)(kv:υ)(cy:Δ bU):Prop where
 jy:wr.heap[r]?=σ (ξ #[kv,ψ (σ ⟨g0,0,ν⟩) n n,ι κ 0] 185 (0,0))
 own:wr.ownsRow W.heap.size 247 1 (ψ (σ ⟨g0,0,ν⟩) n n) n (List.replicate n sM)
 kvo:wr.ownsRow W.heap.size 241 2 kv (Λ cy) (cy.flatMap fP)
 off:kv.ownBlock≠σ r/\kv.ownBlock≠σ g0
 low:Below W.heap.size W wr
 apart:g0≠r
 hr:W.heap.size<=r
theorem kC.UW{W wr:ω}{r:Nat}{kv:υ}{d:Δ bU}(b:kC W wr r w l kv d){c:bU}{o:Obj}{w3:ω}{g gcap:Nat}
 (v:w3.ownsRow W.heap.size 241 2 (ψ (σ ⟨g,0,ν⟩) (Λ d+1) gcap) (Λ d+1) (d.flatMap fP++fP c)) (i:(wr.alloc o).drew.grownBy w3 kv.ownBlock) (n:kv.ownBlock=σ g\/g=wr.heap.size+1) :
 kC W (w3.setCell ⟨r,0,ν⟩ (ψ (σ ⟨g,0,ν⟩) (Λ d+1) gcap)) r w l (ψ (σ ⟨g,0,ν⟩) (Λ d+1) gcap) (d++[c])/\w3.heap[r]?=σ (ξ #[kv,ψ (σ ⟨w,0,ν⟩) l l,ι κ 0] 185 (0,0)):=by
 have j:Below wr.heap.size wr (wr.alloc o).drew:=aP ((aj _ _).alloc (ae _) _);have z:(wr.alloc o).drew.heap.size=wr.heap.size+1:=by show(wr.heap.push _).size=_;rw[gJ]
 have u:=aA b.jy;have y:=(b.own.lt w rfl).2;have p:w3.heap[r]?=σ (ξ #[kv,ψ (σ ⟨w,0,ν⟩) l l,ι κ 0] 185 (0,0)):=(i.block r (by omega) (λa=>b.off.1 a.symm)).trans ((j.block r u).trans b.jy);have s:g≠r:=(by rcases n with a|a;{intro f;exact b.off.1 (by rw[a,f])};omega);have t:g≠w:=(by rcases n with a|a;{intro f;exact b.off.2 (by rw[a,f])};omega);have m:=grownBy_setCell w3 ⟨r,0,ν⟩ (ψ (σ ⟨g,0,ν⟩) (Λ d+1) gcap);refine⟨⟨bq w3 r 0 _ _ _ p,eG (eG (cO b.own j) i (λk e a=>by cases a;exact b.off.2 e)) m (λk e a=>by cases a;cases e;exact b.apart rfl),?_,⟨λa=>s (bh a),λa=>t (bh a)⟩,?_,b.apart,b.hr⟩,p⟩;{rw[au,cX,lP];exact eG v m (λk e a=>by cases a;cases e;exact s rfl)};have x:=b.low.size;exact((b.low.trans (j.mono x)).grown i (by omega) (λk e=>(b.kvo.lt k e).1)).setCell (p:=⟨r,0,ν⟩) b.hr _
theorem kC.seen{W wr:ω}{r:Nat}{kv:υ}{c:Δ bU}(a:kC W wr r w l kv c){w3:ω}(e:(wr.alloc u).drew.grownBy w3 kv.ownBlock):w3.cell? ⟨r,0,ν⟩=σ kv/\w3.frozen? ⟨r,0,ν⟩=false:=by
 have f:Below wr.heap.size wr (wr.alloc u).drew:=aP ((aj _ _).alloc (ae _) _);have g:(wr.alloc u).drew.heap.size=wr.heap.size+1:=by show(wr.heap.push _).size=_;rw[gJ]
 have b:=(e.block r (by have:=aA a.jy;omega) (λd=>a.off.1 d.symm)).trans ((f.block r (aA a.jy)).trans a.jy);exact⟨(bN b).1,by simp[World.frozen?,b]⟩
theorem kC.ry{W wr:ω}{r:Nat}{kv:υ}{m:Δ bU}(g:kC W wr r w l kv m):lY wr wr r W.heap.size kv (ψ (σ ⟨w,0,ν⟩) l l) (List.replicate l sM) (List.replicate l sM) (dq l []) 0:=by have i:∀(b:Nat) (a:υ),(List.replicate l sM)[b]?=σ a->a=sM:=λb a e=>(ow.mp (aq e)).2;refine⟨g.jy,⟨by rw[cG];exact g.own,⟨by simp[cG],λb a o d n=>?_,λb p a s j _ d _ c=>?_⟩,λb a j d c=>?_⟩,λa e j c=>.inl ⟨a,e,c⟩,bu.refl _ _,λf=>g.apart (bh f),λa e f=>?_,aA g.jy⟩;{obtain⟨-,rfl⟩:=Ji n;rw[i b a d];exact⟨rfl,.inl ⟨rfl,rfl⟩⟩};{rw[i b a d]at c;cases c};{rw[i b a d]at c;cases c};rw[(ow.mp e).2]at f;cases f
