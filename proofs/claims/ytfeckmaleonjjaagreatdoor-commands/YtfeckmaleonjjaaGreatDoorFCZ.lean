import Derived.Test.YtfeckmaleonjjaaGreatDoorFCK
set_option maxHeartbeats 0
set_option maxRecDepth 100000
namespace Go.Proofs.YtfeckmaleonjjaaGreatDoor
open Go.RowKit
open _root_.Go.Proofs.Tryz
open Go.IntKind renaming i64→κ
open Go.Ending renaming returned→τ
open Go renaming World→ω,Value→υ
open Go.Value renaming int→ι,string→θ,slice→ψ,agg→χ
variable{x:ω}
def aqB(w:ω)(base:Nat)(v:υ)(r:oE):Prop:=w.ownsRow base 292 5 v r.ew.length (De (r.ew.map tW))
def al4(R:Δ It)(v:υ)(r:oE):Prop:=∀w base,(∀a∈R,zE base w a)->aqB w base v r
section
variable {o:ω×Option Nat} {w w':ω} {p d:Nat} {m:aD} {L:Δ It}
theorem Pr.aqC(k:Pr o w p 0 m L):Calls prog 105 #[.pointer (some ⟨p,0,none⟩)] w λc w'=>
 ∃e b f g,c=τ (χ #[ι κ m.cE,ψ e b f])/\Pr o w' p 0 (kj m).2 (g::L)/\((kj m).2.cZ->al4 [g] (ψ e b f) (kj m).1):=by have⟨q,n,fin⟩:=k.start;have A:=λw=>(xK (bf m.tk) m.cE (dC m.tk) (iQ m.tk) w).2.1;go_in;go_wp21;refine((n.new #[ι κ 0,ψ none 0 0] 219).sign J2).mono ?_;rintro c B ⟨rfl,r⟩;go_wp21;refine(lists.2.2 _ _ rfl rfl r (ZJ p 0)).mono ?_;rintro c C ⟨e,b,f,E,rfl,i,j⟩;rw[Vo]at i j;have l:=ak j;go_wp21;refine(i.sign FF).mono ?_;rintro c D ⟨rfl,a⟩;replace a:=a.perm (.swap _ _ _);have⟨x,y⟩:=gC a.box;have F:=a.fz;go_wp2;(try simp only[Exit.inBlock,Exit.then]);refine aE (v:=_) (by simp[results,results105,go_sem,x,y];rfl) rfl ?_;refine⟨e,b,f,_,rfl,fin [_] ((a.Zs _ _).perm (.swap _ _ _)),λu W z t=>?_⟩;have s:=l.J (j8 u);subst s;have v:b=(de gF (m.take du)).1.length:=(yV a.drop.row (λ_=>rfl) (by decide)).trans (by simp);subst v;exact t _ (.head _)
theorem Pr.load(N:Pr o w p 0 m L):Calls prog 75 #[.pointer (some ⟨p,0,none⟩)] w λb w'=>
 ∃g c i f e,b=τ (.iface 224 (χ #[θ (dC m.tk),ι κ m.cE,ψ g c i]))/\Pr o w' p 0 (nz (kj m.aI.2).2.len [(kj m.aI.2).1] (kj m.aI.2).2).2 (.inr (ψ g c i,219,2,c,Cf f)::(e++L))/\
   ((nz (kj m.aI.2).2.len [(kj m.aI.2).1] (kj m.aI.2).2).2.cZ->Each (λj b=>j.1=b.pl/\al4 e j.2 b) f (nz (kj m.aI.2).2.len [(kj m.aI.2).1] (kj m.aI.2).2).1):=by
 have⟨q,F,fin⟩:=N.start;have Gt:=F.alM;generalize hR:nz (kj m.aI.2).2.len [(kj m.aI.2).1] (kj m.aI.2).2=RR;have R:=ak hR;have Dk:=ay (Ae m.aI.2) (ay (take_len _ _) (eQ m));go_in;go_wp21;refine F.aI.mono ?_;rintro b w1 ⟨rfl,V⟩;go_wp21;refine(V.new #[θ (dC m.tk),ι κ m.cE] 117).aqC.mono ?_;rintro b w2 ⟨ag,n0,al,T,rfl,X,Y⟩;have O:=ak Y;go_wp2;go_loopw[4] (λad wr=>∃(a:aD) (g:Option Addr) (c i:Nat) (f:Δ (Nat×υ)) (t:Δ oE) (e:Δ It) (k:Nat),ad=ψ g c i/\Pr (w,q) wr p 0 a (.inl (w1.heap.size,#[θ (dC m.tk),ι κ m.cE],117)::.inr (ψ g c i,219,2,c,Cf f)::e)/\c+a.len<=401/\a.len<=k/\Hid (nz k t a=RR)/\Hid (a.cZ->Each (λj b=>j.1=b.pl/\al4 e j.2 b) f t)) (λ_ wr=>MR wr p);case atStart=>exact⟨_,_,1,_,[(m.aI.2.cE,ψ ag n0 al)],_,[T],_,rfl,(((X.new _ _).one (z:=2) rfl).perm (List.Perm.cons _ (.swap _ _ _))).perm (.swap _ _ _),by omega,ae _,R,ak λz=>⟨⟨rfl,O.J z⟩,trivial⟩⟩
 case round=>obtain⟨a,g,c,i,f,t,e,k,rfl,n,hn,hf,C,D⟩:=hrel;have I:=J2 n.wf;have Q:=ak n.left;obtain⟨s,H⟩:∃s,decide (bf a.tk=11)=s:=⟨_,rfl⟩;rw[H]at I;have E:=n.is1 11 s H;have l:=ak I;cases s;{go_wp21;refine E.mono ?_;rintro b w3 ⟨rfl,r⟩;have⟨c0,c1⟩:=gC r.box;go_wp2;go_ret;have aa:=(L0 l.J).symm.trans C.J;rw[<- aa];exact⟨g,c,i,f,e,rfl,@fin _ _ _ (.inr _::e) [] (by simpa using r.drop),D.J⟩};have⟨tU,an⟩:=n.goes l.J;obtain⟨x,rfl⟩:∃x,k=x+1:=⟨k - 1,by omega⟩;have tH:=ak (LZ C.J l.J);have M:=Ae a;rw[show a.take du=a.aK by unfold aD.take;rw[aN l.J]]at M;go_wp21;refine E.mono ?_;rintro b w3 ⟨rfl,r⟩;go_wp21;refine r.aqC.mono ?_;rintro b w4 ⟨ai,n4,am,U,rfl,u,ac⟩;have P:=ak ac;replace u:=((u.perm (.swap _ _ _)).perm (List.Perm.cons _ (.swap _ _ _))).perm (.swap _ _ _);go_wp2_with(at_builtin;refine u.append rfl _ _ rfl underlying221 Tryz.RV rfl (by decide) (by decide) (by omega) rfl rfl rfl (by simp[Value.oneCell'];done) ?_;intro ab Z w5 G);go_wp2;go_roundw;(case rel=>refine⟨_,some ⟨ab,0,none⟩,c+1,Z,f++[(a.cE,ψ ai n4 am)],t++[(kj a).1],U::e,x,rfl,?_,by omega,by omega,tH,ak λz=>?_⟩;{rw[Vc];exact G.perm (.swap _ _ _)};exact((D.J tU).mono (λj _ ao K=>⟨K.1,λW v y=>K.2 W v λB A=>y B (.tail _ A)⟩)).snoc ⟨rfl,λW v y=>P.J z W v λB A=>y B (by rw[bj.mp A];exact .head _)⟩);case measure=>rw[G.left,Q.J];omega
theorem Pr.create(i:Pr o w p d m L):Calls prog 73 #[.pointer (some ⟨p,0,none⟩)] w λb w'=>
 ∃c a e f,b=τ (.iface 216 (χ #[θ (dC m.tk),ι κ m.cE,ψ c a e]))/\Pr o w' p d ((de qB (m.aI.2.take du)).2.take fK) (.inr (ψ c a e,213,3,a,f)::L)/\
   (((de qB (m.aI.2.take du)).2.take fK).cZ->f=Xe (de qB (m.aI.2.take du)).1):=by have⟨q,k,fin⟩:=i.start;go_in;go_wp21;refine k.aI.mono ?_;rintro b x ⟨rfl,l⟩;go_wp21;refine((l.new #[θ (dC m.tk),ι κ m.cE] 117).sign J2).mono ?_;rintro b y ⟨rfl,n⟩;go_wp21;refine(lists.2.1 _ _ rfl rfl n (JX p d)).mono ?_;rintro b z ⟨c,a,e,f,rfl,r,t⟩;have j:=ak t;go_wp21;refine(r.sign FF).mono ?_;rintro b A ⟨rfl,g⟩;have⟨u,v⟩:=gC g.drop.box;go_wp2;go_ret;exact⟨c,a,e,f,rfl,fin [_] g,λs=>j.J (j8 s)⟩
def RW(m:aD):aD:=m.aI.2.take p8
def grC(m:aD):aD:=(RW m).aI.2.take du
def grE(m:aD):aD:=((fL (grC m)).2.take fK).take fQ
theorem Pr.qM(t:Pr o w p 0 m L):Calls prog 76 #[.pointer (some ⟨p,0,none⟩)] w λa w'=>
 ∃i b j k f g,a=τ (.iface 233 (χ #[θ (dC m.tk),ι κ m.cE,θ (dC (RW m).tk),ι κ (RW m).cE,ψ i b j,ι κ (grE m).cE,.iface f g]))/\Pr o w' p 0 (oL (grE m)).2 (.inr (ψ i b j,117,2,b,k)::L)/\
   ((oL (grE m)).2.cZ->k=iA (fL (grC m)).1/\.iface f g=se (oL (grE m)).1.1):=by have⟨q,y,fin⟩:=t.start;go_in;go_wp21;refine y.aI.mono ?_;rintro a N ⟨rfl,z⟩;go_wp21;refine((z.new #[θ (dC m.tk),ι κ m.cE] 117).sign iOn).mono ?_;rintro a O ⟨rfl,n⟩;change Pr _ _ _ _ (RW m) _ at n;go_wp21;refine n.aI.mono ?_;rintro a P ⟨rfl,A⟩;go_wp21;refine((A.new #[θ (dC (RW m).tk),ι κ (RW m).cE] 117).sign J2).mono ?_;rintro a Q ⟨rfl,r⟩;change Pr _ _ _ _ (grC m) _ at r;go_wp21;refine r.bJ.mono ?_;rintro a R ⟨i,b,j,k,rfl,B,e⟩;have u:=ak e;go_wp21;refine(B.sign FF).mono ?_;rintro a T ⟨rfl,C⟩;go_wp21;refine(C.sign vW).mono ?_;rintro a U ⟨rfl,c⟩;change Pr _ _ _ _ (grE m) _ at c;have x:=c.drew.formula;have⟨F,G⟩:=gC c.drop.box;have⟨D,E⟩:=gC c.drop.drop.box;go_wp21;go_region_with((with_reducible refine dM x ?_);rintro a V ⟨f,g,rfl,l,e⟩;have⟨H,I⟩:=gC l.drop.box;obtain⟨K,M⟩:=gC l.drop.drop.box;have v:=ak e;clear e);all_goals (try go_wp2);go_ret;exact⟨i,b,j,k,f,g,rfl,fin [_] l,λs=>⟨u.J (j8 (j8 (Fx s))),v.J s⟩⟩
end
def RX(pl:Nat)(t:Nm):dz:={ fq gd pl with tj:=t }
inductive Lt (w:ω) (base:Nat):υ->Bp->Prop
 | tf (t:Nm) (cy:Δ (Nm×Nat)) (v:υ):w.ownsRow base 213 3 v cy.length (Xe cy)->Lt w base (.iface 216 (χ #[θ t.1,ι κ t.2,v])) (.create t cy)
 | DR (t:Nm):Lt w base (.iface 164 (χ #[θ t.1,ι κ t.2])) (.drop t)
 | BX (t:Nm) (v:υ) (vs:Δ (Nat×υ)) (ry:Δ oE):w.ownsRow base 219 2 v vs.length (Cf vs)->Each (fun a r=>a.1=r.pl/\aqB w base a.2 r) vs ry->Lt w base (.iface 224 (χ #[θ t.1,ι κ t.2,v])) (.load t ry)
 | ad3 (u t:Nm) (cy:Δ Nm) (e:Ex) (pl:Nat) (v:υ):w.ownsRow base 117 2 v cy.length (iA cy)->Lt w base (.iface 233 (χ #[θ u.1,ι κ u.2,θ t.1,ι κ t.2,v,ι κ pl,se e])) (.qM u t cy e pl)
 | ux (u t:Nm):Lt w base (.iface 167 (χ #[θ u.1,ι κ u.2,θ t.1,ι κ t.2])) (.pO u t)
 | ad4 (pl:Nat) (t:Nm) (v:υ) (ss:Δ dz):w.ownsRow base 180 1 v ss.length (Z1 ss)->Lt w base (.iface 120 (χ #[ι κ pl,θ t.1,ι κ t.2,v])) (.query (RX pl t :: ss))
section
variable {m:aD} (hw:m.tk.wf)
include hw
theorem vq:m.is rr=decide (bf m.tk=30):=fS (i:=9) hw rfl (by decide)
theorem FG:m.is BM=decide (bf m.tk=31):=fS (i:=10) hw rfl (by decide)
theorem J4:m.is Du=decide (bf m.tk=32):=fS (i:=11) hw rfl (by decide)
theorem Ho:m.is zQ=decide (bf m.tk=33):=fS (i:=12) hw rfl (by decide)
theorem J5:m.is xZ=decide (bf m.tk=34):=fS (i:=13) hw rfl (by decide)
theorem ad5:m.is gd=decide (bf m.tk=21):=fS (i:=0) hw rfl (by decide)
theorem VE(a:bf m.tk=30):di m=(.create m.aK.aI.1 (de qB (m.aK.aI.2.take du)).1,(de qB (m.aK.aI.2.take du)).2.take fK):=by unfold di;rw[vq hw,cJ a];rfl
theorem ad6(a:bf m.tk=31):di m=(.drop m.aK.aI.1,m.aK.aI.2):=by unfold di;rw[vq hw,FG hw,cJ a,aV (show¬bf m.tk=30 by omega)];rfl
theorem ad7(a:bf m.tk=32):di m=(.load m.aK.aI.1 (nz (kj m.aK.aI.2).2.len [(kj m.aK.aI.2).1] (kj m.aK.aI.2).2).1,(nz (kj m.aK.aI.2).2.len [(kj m.aK.aI.2).1] (kj m.aK.aI.2).2).2):=by unfold di;rw[vq hw,FG hw,J4 hw,cJ a,aV (show¬bf m.tk=30 by omega),aV (show¬bf m.tk=31 by omega)];rfl
theorem Z2(a:bf m.tk=33):di m=(.qM m.aK.aI.1 (RW m.aK).aI.1 (fL (grC m.aK)).1 (oL (grE m.aK)).1.1 (oL (grE m.aK)).1.2,(oL (grE m.aK)).2):=by unfold di;rw[vq hw,FG hw,J4 hw,Ho hw,cJ a,aV (show¬bf m.tk=30 by omega),aV (show¬bf m.tk=31 by omega),aV (show¬bf m.tk=32 by omega)];rfl
theorem VF(a:bf m.tk=34):di m=(.pO m.aK.aI.1 (RW m.aK).aI.1,(RW m.aK).aI.2):=by unfold di;rw[vq hw,FG hw,J4 hw,Ho hw,J5 hw,cJ a,aV (show¬bf m.tk=30 by omega),aV (show¬bf m.tk=31 by omega),aV (show¬bf m.tk=32 by omega),aV (show¬bf m.tk=33 by omega)];rfl
theorem ad8(a:bf m.tk=21):di m=(.query (jc m.aK.aI.2.len [RX m.cE m.aK.aI.1] m.aK.aI.2).1,(jc m.aK.aI.2.len [RX m.cE m.aK.aI.1] m.aK.aI.2).2):=by
 have b:m.take gd=m.aK:=by unfold aD.take;rw[ad5 hw,cJ a];rfl
 unfold di;rw[vq hw,FG hw,J4 hw,Ho hw,J5 hw,b,aV (show¬bf m.tk=30 by omega),aV (show¬bf m.tk=31 by omega),aV (show¬bf m.tk=32 by omega),aV (show¬bf m.tk=33 by omega),aV (show¬bf m.tk=34 by omega)];rfl
theorem ad9(c:¬bf m.tk=30)(e:¬bf m.tk=31)(f:¬bf m.tk=32)(g:¬bf m.tk=33)(i:¬bf m.tk=34)(b:¬bf m.tk=21):(di m).2=m.cQ 2:=by
 have j:m.take gd=m.cQ 2:=by unfold aD.take;rw[ad5 hw,aV b];rfl
 have⟨k,l,a⟩:=C4 m 2;unfold di;rw[vq hw,FG hw,J4 hw,Ho hw,J5 hw,j,aV c,aV e,aV f,aV g,aV i,a];rfl
end
theorem Z3{m:aD}:∀{a:Nat} {b:Δ oE},(nz a b m).2.cZ->m.cZ:=by intro a b;induction a generalizing b m with|zero=>exact id|succ a f=>unfold nz;split;{intro e;have c:=f e;exact qV.mpr (ay (qV.mp c) (ay (Ae m) (take_len m du)))};exact id
theorem RY{m:aD}:∀{a:Nat} {b:Δ dz},(jc a b m).2.cZ->m.cZ:=by intro a b;induction a generalizing b m with|zero=>exact id|succ a f=>unfold jc;split;{intro e;have c:=f e;exact qV.mpr (ay (qV.mp c) (ay (MT m.aK) dX))};exact id
section
variable {o:ω×Option Nat} {w w':ω} {p d:Nat} {m:aD} {L:Δ It}
theorem Pr.command(A:Pr o w p 0 m L):Calls prog 48 #[.pointer (some ⟨p,0,none⟩)] w λg w'=>
 ∃u s,g=τ u/\Vd u/\Pr o w' p 0 (di m).2 (s++L)/\((di m).2.cZ->∀W i,(∀D∈s,zE i W D)->Lt W i u (di m).1):=by
 have⟨q,U,fin⟩:=A.start;have hw:=A.wf;have C:=U.take;have⟨a,j⟩:=nm (bf m.tk);rw[<- j]at C;rcases(show a=30\/a=31\/a=32\/a=33\/a=34\/a=21\/(¬a=30/\¬a=31/\¬a=32/\¬a=33/\¬a=34/\¬a=21)by omega)with rfl|rfl|rfl|rfl|rfl|rfl|⟨f,I,K,M,N,O⟩
 all_goals
  (try
    have e1:((a:Int)==30)=false:=FD f;have F:((a:Int)==31)=false:=FD I;have e3:((a:Int)==32)=false:=FD K;have e4:((a:Int)==33)=false:=FD M;have e5:((a:Int)==34)=false:=FD N;have e6:((a:Int)==21)=false:=FD O)
  first
   |have e:=ak (VE hw j.symm)
   |have e:=ak (ad6 hw j.symm)
   |have e:=ak (ad7 hw j.symm)
   |have e:=ak (Z2 hw j.symm)
   |have e:=ak (VF hw j.symm)
   |have e:=ak (ad8 hw j.symm)
   |have e:=ak (ad9 hw (by omega) (by omega) (by omega) (by omega) (by omega) (by omega))
  (try clear f I K M N O);clear j;go_in;go_wp21;refine C.mono ?_;rintro g w0 ⟨rfl,l⟩;go_wp21
 {refine(l.new _ _).create.mono ?_;rintro g n ⟨y,P,z,xs,rfl,b,k⟩;have r:=ak k;clear k;go_wp2;go_ret;rw[e.J];refine⟨_,[_],rfl,.inr ⟨_,_,rfl⟩,fin [_] b,λc W i f=>?_⟩;have x:=r.J c;subst x;rw[<- (oP m.aK).2 (j8 (MK (JX 0 0).2.1 (j8 c)))];have t:=yV (l:=(de qB (m.aK.aI.2.take du)).1) b.row (λ_=>rfl) (by decide);exact .tf (dC m.aK.tk,m.aK.cE) _ _ (t ▸ f _ (.head _))};{refine(l.new _ _).aI.mono ?_;rintro g n ⟨rfl,b⟩;go_wp2;go_ret;rw[e.J];refine⟨_,[],rfl,.inr ⟨_,_,rfl⟩,fin [] b,λc W i f=>?_⟩;rw[<- (oP m.aK).2 c];exact .DR (dC m.aK.tk,m.aK.cE)};{refine(l.new _ _).load.mono ?_;rintro g n ⟨y,P,z,Q,s,rfl,b,k⟩;have r:=ak k;clear k;go_wp2;go_ret;rw[e.J];refine⟨_,.inr _::s,rfl,.inr ⟨_,_,rfl⟩,fin (.inr _::s) b,λc W i f=>?_⟩;rw[<- (oP m.aK).2 (j8 (back (Ae _) (Z3 c)))];have t:=yV (l:=Q) b.row (λ_=>rfl) (by decide);exact .BX (dC m.aK.tk,m.aK.cE) _ Q _ (t ▸ f _ (.head _)) ((r.J c).mono λD _ g G=>⟨G.1,G.2 W i λZ X=>f Z (.tail _ X)⟩)};{refine(l.new _ _).qM.mono ?_;rintro g n ⟨y,P,z,xs,aa,u,rfl,b,k⟩;have r:=ak k;clear k;go_wp2;go_ret;rw[e.J];refine⟨_,[_],rfl,.inr ⟨_,_,rfl⟩,fin [_] b,λc W i f=>?_⟩;have⟨x,F⟩:=r.J c;subst x;have E:(grC m.aK).cZ:=MK eQ (j8 (j8 (Fx c)));have V:(RW m.aK).cZ:=back (eQ _) (j8 E);have t:=yV (l:=(fL (grC m.aK)).1) b.row (λ_=>rfl) (by decide);rw[<- (oP m.aK).2 (j8 V),<- (oP (RW m.aK)).2 (j8 E),F];exact .ad3 (dC m.aK.tk,m.aK.cE) (dC (RW m.aK).tk,(RW m.aK).cE) _ _ _ _ (t ▸ f _ (.head _))};{refine(l.new _ _).aI.mono ?_;rintro g n ⟨rfl,b⟩;go_wp21;refine((b.new #[θ (dC m.aK.tk),ι κ m.aK.cE] 117).sign iOn).mono ?_;rintro g w2 ⟨rfl,v⟩;change Pr _ _ _ _ (RW m.aK) _ at v;have T:=v.drew.aI;have⟨n0,n1⟩:=gC v.box;go_wp21;go_region_with((with_reducible refine dM T ?_);rintro g w3 ⟨rfl,B⟩;have⟨u0,u1⟩:=gC B.box);all_goals (try go_wp2);go_ret;rw[e.J];refine⟨_,[],rfl,.inr ⟨_,_,rfl⟩,fin [] B,λc W i f=>?_⟩;rw[<- (oP m.aK).2 (j8 (back (eQ _) c)),<- (oP (RW m.aK)).2 c];exact .ux (dC m.aK.tk,m.aK.cE) (dC (RW m.aK).tk,(RW m.aK).cE)};{refine((l.new _ _).query m.cE (RX m.cE m.aK.aI.1)).mono ?_;rintro g n ⟨y,z,Y,rfl,b,H⟩;have R:=ak H;clear H;go_wp2;go_ret;rw[e.J];refine⟨_,[_],rfl,.inr ⟨_,_,rfl⟩,fin [_] b,λc W i f=>?_⟩;show Lt _ _ _ (.query (jc m.aK.aI.2.len [RX m.cE m.aK.aI.1] m.aK.aI.2).1);rw[R.J,<- (oP m.aK).2 (RY c)];exact .ad4 m.cE (dC m.aK.tk,m.aK.cE) _ Y (f _ (.head _))};refine((l.new _ _).refuse _ _ _ _).mono ?_;rintro g n ⟨rfl,b⟩;rw[qU]at b;go_wp2;go_ret;rw[e.J];exact⟨_,[],rfl,.inl rfl,fin [] b,λc=>absurd c (ez m 2)⟩
end
def RZ(m:aD):aD:=match m with
 |.live ⟨.stop,_⟩ _=>m
 |_=>m.cQ 2
theorem ahl{S:Γ}(f:S.size<=300):lG S=match RZ (di (aD.of (iw S 0))).2 with
 |.dead b a=>.inr (b,a)
 |.live _ _=>.inl (di (aD.of (iw S 0))).1:=by
 unfold lG;rw[aH (by omega)];simp only;generalize (di (aD.of (iw S 0))).2=M
 cases M with
 |dead b a=>rfl
 |live e i=>
   obtain⟨c,g⟩:=e
   cases c<;>rfl
theorem Z4{m:aD}(hw:m.tk.wf):(bf m.tk=0->RZ m=m/\m.cZ)/\(¬bf m.tk=0->RZ m=m.cQ 2):=by unfold RZ;cases m with|dead g f=>(exact⟨λa=>by simp[aD.tk,bf]at a,λ_=>rfl⟩)|live e j=>obtain⟨c,i⟩:=e;cases c with|stop=>exact⟨λ_=>⟨rfl,trivial⟩,λa=>absurd rfl a⟩|bad=>(exact⟨λa=>by simp[aD.tk,bf]at a,λ_=>rfl⟩)|aI b=>(exact⟨λa=>by simp[aD.tk,bf]at a,λ_=>rfl⟩)|num b=>(exact⟨λa=>by simp[aD.tk,bf]at a,λ_=>rfl⟩)|str b=>(exact⟨λa=>by simp[aD.tk,bf]at a,λ_=>rfl⟩)|sign b=>(exact⟨λa=>by simp[aD.tk,bf]at a,λ_=>rfl⟩)|cU b=>exact⟨λa=>by simp[aD.tk,bf]at a,λ_=>rfl⟩
def aqD(w:ω)(base:Nat)(v:υ)(c:Bp):Prop:=∀W:ω,(∀g,base<=g->g<w.heap.size->W.heap[g]?=w.heap[g]?)->Lt W base v c
def Hp(w':ω)(base:Nat)(r:Ending)(S:Γ):Prop:=
 ∃v e b,r=τ (.tuple #[v,χ #[ι κ (e:Nat),ι κ (b:Nat)]])/\Vd v/\match lG S with
   |.inl c=>e=0/\aqD w' base v c
   |.inr q=>e=q.1/\b=q.2/\e≠0
theorem J6{w f:ω}{p:Nat}(a:Below w.heap.size w x)(b:bu (Other p x) x f)(g:w.heap.size<=p):Below w.heap.size w f:=
 ⟨b.os.trans a.os,b.tape.trans a.tape,b.output.trans a.output,ay a.size b.size,λc e=>(b.block c ⟨by omega,aw e a.size⟩).trans (a.block c e)⟩
theorem VG{w:ω}(c:Below w.heap.size w x)(a b:υ):Below w.heap.size w ((x.setCell (Ad w.heap.size 0) a).setCell (Ad w.heap.size 1) b):=
 (c.setCell (p:=(Ad w.heap.size 0)) (ae _) a).setCell (p:=(Ad w.heap.size 1)) (ae _) b
def ahm(e b:Nat):aD->Prop
 |.live _ _=>e=0
 |.dead e' b'=>e=e'/\b=b'/\e≠0
theorem Pr.cQ{o:ω×Option Nat}{w:ω}{p d:Nat}{m:aD}{L:Δ It}(S:Pr o w p d m L):∃c b:Nat,w.cell? (Ad p 3)=some (ι κ c)/\w.cell? (Ad p 4)=some (ι κ b)/\Hid (ahm c b m):=by obtain⟨e,i,a,-⟩:=S.ex;refine⟨e.e,e.b,a.xX.cell 3,a.xX.cell 4,ak ?_⟩;have:=a.mode;cases m with|live j k=>exact this.1|dead f g=>exact⟨this.1,this.2.1,this.1 ▸ this.2.2.1⟩
theorem Z5(S:Γ)(w:ω)(E:S.size<=300)(e:Eu w)(V:Rr w):Calls prog 24 #[θ S] w λs w'=>
 Hp w' w.heap.size s S/\Below w.heap.size w w':=by
 have qY:=e.size;have x:Below w.heap.size w (w.alloc (.cells #[ι κ 0,ι κ 0] 77)):=(aj _ _).alloc (ae _) _;have ag:=U4 S (w.alloc (.cells #[ι κ 0,ι κ 0] 77)) E (e.aU x qY);have HO:=ak (λr G F=>(x.cell (p:=(Ad 8 r)) (by show 8<_;omega)).trans (V r G F));have E6:=ak x;clear e V x;go_in;go_wp21;refine ag.mono ?_;rintro s g ⟨v1,rfl,v,t⟩;obtain⟨H,I,rfl⟩:=Rp v;have⟨W,l⟩:=nm (g.alloc (.cells #[ψ H (iw S 0).length I,ι κ 0,ι κ 0,ι κ 0,ι κ 0] 109));have mL:w.heap.size+1<=g.heap.size:=by have:=t.size;simpa using this
 have u:=Br l;have S0:Pr (W,(Value.slice H (iw S 0).length I).ownBlock) W g.heap.size 0 (aD.of (iw S 0)) []:=
  ⟨⟨⟨ψ H (iw S 0).length I,0,0,0,0⟩,iw S 0,nO.begin E (by rw[l];exact az g _) (jR (vl v (bu.Dv u) (λk e=>(v.lt k e).2)) (aB _)) (λj=>by have:=(v.lt _ j).2;omega),rfl,λk e=>⟨.inl e,λi c=>by cases c⟩⟩,bu.refl _ _,(λi c=>by cases c),.nil,⟨by omega,by show g.heap.size<W.heap.size;rw[l];simp⟩,λr G F=>(u.cell (p:=(Ad 8 r)) (by show 8<_;omega)).trans ((t.cell (p:=(Ad 8 r)) (by simp;omega)).trans (HO.J r G F))⟩
 have f:g.heap.size+1=W.heap.size:=by rw[l];simp
 have HF:=ak ((u.block w.heap.size (by omega)).trans ((t.block w.heap.size (by simp)).trans (az w (.cells #[ι κ 0,ι κ 0] 77))));have HB:=ak ((E6.J.trans (t.mono (by simp))).trans (u.mono (by omega)));have aa:=S0.command;have HZ:=ak f;have cK:g.heap.size<W.heap.size:=by omega
 clear v t u f;go_wp21;rw[<- l];clear l;refine aa.mono ?_;rintro s w3 ⟨Y,am,rfl,U,S3,R⟩;have O:=ak R;have ad:=ak U;clear R U;go_wp21;refine S3.aK.mono ?_;rintro s K ⟨rfl,y⟩;have⟨a,D⟩:=nm ((di (aD.of (iw S 0))).2);rw[<- D]at y O ⊢;have B:=Z4 y.wf;have hf:=λw=>(xK (bf a.tk) a.cE (dC a.tk) (iQ a.tk) w).1;have Mi:Hid (lG S=match RZ a with
  |.dead j z=>.inr (j,z)
  |.live _ _=>.inl (di (aD.of (iw S 0))).1):=ak (by rw[D];exact ahl E)
 clear D;by_cases f:bf a.tk=0;(case' pos=>have al:((bf a.tk:Int) != 0)=false:=(by rw[f];rfl);have⟨n,X⟩:=B.1 f;have b:=y;have Z:=ak (show(RZ a).cZ->a.cZ fromλ_=>X);rw[<- n]at b;clear B n X f);(case' neg=>have al:((bf a.tk:Int) != 0)=true:=(by rw[dZ];omega);have n:=B.2 f;have Z:=ak (show(RZ a).cZ->a.cZ fromλc=>by rw[n]at c;exact absurd c (ez a 2));have ac:=ak n;clear B n f;go_wp21;refine y.aK.mono ?_;rintro s w5 ⟨rfl,S5⟩;go_wp21;refine(S5.refuse _ _ _ _).mono ?_;rintro s K ⟨rfl,b⟩;change Pr _ _ _ _ (a.cQ 2) _ at b;rw[<- ac.J]at b);all_goals
  have⟨j,z,p3,p4,ab⟩:=b.cQ;have C:=(b.fr.block w.heap.size ⟨by omega,by show _<W.heap.size;omega⟩).trans HF.J;have⟨q0,q1⟩:=gC C;have ao:=cF C;have jK:¬(g.heap.size=w.heap.size):=by omega
  have yr:Hid (∀M N,Hp (((K.setCell (Ad w.heap.size 0) M).setCell (Ad w.heap.size 1) N).drew) w.heap.size (τ (.tuple #[Y,χ #[ι κ j,ι κ z]])) S/\Below w.heap.size w (((K.setCell (Ad w.heap.size 0) M).setCell (Ad w.heap.size 1) N).drew)):=ak λM N=>by
   refine⟨⟨Y,j,z,rfl,ad.J,?_⟩,aP (VG (J6 HB.J b.fr (by omega)) _ _)⟩;rw[Mi.J];have A:=ab.J;have P:=Z.J
   cases hE:RZ a with
   |dead i ai=>rw[hE]at A;exact A
   |live i ai=>
     rw[hE]at A P;refine⟨A,λan hV=>O.J (P trivial) _ _ λi c=>Ti (qs (b.ok i (iD _ c)) λk e=>?_) (show w.heap.size<=W.heap.size by omega)⟩;have⟨h3,Q⟩:=pI (b.ok i (iD _ c)) e;have Q:W.heap.size<=k:=Q;have T:k≠w.heap.size:=by omega
     exact(hV k (by omega) (by simpa using h3)).trans ((aL _ _ _ _ T).trans (aL _ _ _ _ T))
  clear C;(try go_wp2);go_region;all_goals (try go_wp2);(try simp only[Exit.inBlock,Exit.then]);refine aE (v:=_) (by simp[results,results24,go_sem,q0,q1];rfl) rfl ?_;exact yr.J _ _
