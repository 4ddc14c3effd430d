import Derived.Test.YtcoaphfimellcaaGreatDoorFAF
set_option maxHeartbeats 0
set_option maxRecDepth 100000
namespace Go.Proofs.YtcoaphfimellcaaGreatDoor
open Go.RowKit
open _root_.Go.Proofs.Tryz
open Go.IntKind renaming i64→κ
open Go.Ending renaming returned→τ
open Go renaming World→ω,Value→υ
open Go.Value renaming int→ι,string→θ,slice→ψ,agg→χ
variable{x:ω}
def arU(w:ω)(base:Nat)(v:υ)(r:wj):Prop:=w.ownsRow base 250 5 v r.vals.length (CX (r.vals.map tD))
def anC(R:List It)(v:υ)(r:wj):Prop:=∀w base,(∀a∈R,IB base w a)->arU w base v r
section
variable {o:ω×Option Nat} {w w':ω} {p d:Nat} {m:Mode} {L:List It}
theorem Pr.arV(k:Pr o w p 0 m L):Calls prog 84 #[.pointer (some ⟨p,0,none⟩)] w λc w'=>
 ∃e b f g,c=τ (χ #[ι κ m.place,ψ e b f])/\Pr o w' p 0 (kW m).2 (g::L)/\((kW m).2.alive->anC [g] (ψ e b f) (kW m).1):=by have⟨q,n,fin⟩:=k.start;have B:=λw=>(wN (aV m.tk) m.place (dc m.tk) (gP m.tk) w).2.1;go_in;go_wp2_with fail;refine((n.new #[ι κ 0,ψ none 0 0] 174).sign J7).mono ?_;rintro c C ⟨rfl,r⟩;go_wp2_with fail;refine(lists.2.2.2 _ _ rfl rfl r (aao p 0)).mono ?_;rintro c D ⟨e,b,f,F,rfl,i,j⟩;rw[VE]at i j;have l:=au j;go_wp2_with fail;refine(i.sign Fv).mono ?_;rintro c E ⟨rfl,a⟩;replace a:=a.perm (.swap _ _ _);have⟨x,y⟩:=fN a.box;have G:=a.fz;go_wp2;(try simp only[Exit.inBlock,Exit.then]);refine aD (v:=_) (by simp[results,results84,go_sem,x,y];rfl) rfl ?_;refine⟨e,b,f,_,rfl,fin [_] ((a.YQ _ _).perm (.swap _ _ _)),λu z A t=>?_⟩;have s:=l.J (jJ u);subst s;have v:b=(dk jR (m.take cq)).1.length:=(rY a.drop.row (λ_=>rfl) (by decide)).trans (by simp);subst v;exact t _ (.head _)
theorem Pr.load(O:Pr o w p 0 m L):Calls prog 62 #[.pointer (some ⟨p,0,none⟩)] w λb w'=>
 ∃g c i f e,b=τ (.iface 179 (χ #[θ (dc m.tk),ι κ m.place,ψ g c i]))/\Pr o w' p 0 (mW (kW m.name.2).2.len [(kW m.name.2).1] (kW m.name.2).2).2 (.inr (ψ g c i,174,2,c,uH f)::(e++L))/\
   ((mW (kW m.name.2).2.len [(kW m.name.2).1] (kW m.name.2).2).2.alive->Each (λj b=>j.1=b.pl/\anC e j.2 b) f (mW (kW m.name.2).2.len [(kW m.name.2).1] (kW m.name.2).2).1):=by
 have⟨q,G,fin⟩:=O.start;have Mn:=G.ani;generalize hR:mW (kW m.name.2).2.len [(kW m.name.2).1] (kW m.name.2).2=RR;have T:=au hR;have FJ:=ag (zC m.name.2) (ag (take_len _ _) (dW m));go_in;go_wp2_with fail;refine G.name.mono ?_;rintro b w1 ⟨rfl,W⟩;go_wp2_with fail;refine(W.new #[θ (dc m.tk),ι κ m.place] 110).arV.mono ?_;rintro b w2 ⟨al,n0,an,U,rfl,X,Y⟩;have P:=au Y;go_wp2;go_loopw[4] (λad wr=>∃(a:Mode) (g:Option Addr) (c i:Nat) (f:List (Nat×υ)) (t:List wj) (e:List It) (k:Nat),ad=ψ g c i/\Pr (w,q) wr p 0 a (.inl (w1.heap.size,#[θ (dc m.tk),ι κ m.place],110)::.inr (ψ g c i,174,2,c,uH f)::e)/\c+a.len<=401/\a.len<=k/\Hid (mW k t a=RR)/\Hid (a.alive->Each (λj b=>j.1=b.pl/\anC e j.2 b) f t)) (λ_ wr=>MU wr p);case atStart=>exact⟨_,_,1,_,[(m.name.2.place,ψ al n0 an)],_,[U],_,rfl,(((X.new _ _).one (z:=2) rfl).perm (List.Perm.cons _ (.swap _ _ _))).perm (.swap _ _ _),by omega,ae _,T,au λA=>⟨⟨rfl,P.J A⟩,trivial⟩⟩
 case round=>obtain⟨a,g,c,i,f,t,e,k,rfl,n,hn,hf,D,E⟩:=hrel;have K:=J7 n.wf;have R:=au n.left;obtain⟨s,I⟩:∃s,decide (aV a.tk=11)=s:=⟨_,rfl⟩;rw[I]at K;have F:=n.is1 11 s I;have l:=au K;cases s;{go_wp2_with fail;refine F.mono ?_;rintro b w3 ⟨rfl,r⟩;have⟨c0,c1⟩:=fN r.box;go_wp2;go_ret;have aa:=(LX l.J).symm.trans D.J;rw[<- aa];exact⟨g,c,i,f,e,rfl,@fin _ _ _ (.inr _::e) [] (by simpa using r.drop),E.J⟩};have⟨qB,ap⟩:=n.goes l.J;obtain⟨y,rfl⟩:∃y,k=y+1:=⟨k - 1,by omega⟩;have xE:=au (LW D.J l.J);have N:=zC a;rw[show a.take cq=a.next by unfold Mode.take;rw[aF l.J]]at N;go_wp2_with fail;refine F.mono ?_;rintro b w3 ⟨rfl,r⟩;go_wp2_with fail;refine r.arV.mono ?_;rintro b w4 ⟨am,n4,ao,V,rfl,u,ac⟩;have Q:=au ac;replace u:=((u.perm (.swap _ _ _)).perm (List.Perm.cons _ (.swap _ _ _))).perm (.swap _ _ _);go_wp2_with(at_builtin;refine u.append rfl _ _ rfl underlying176 Tryz.Si rfl (by decide) (by decide) (by omega) rfl rfl rfl (by simp[Value.oneCell'];done) ?_;intro ab Z w5 H);go_wp2;go_roundw;(case rel=>refine⟨_,some ⟨ab,0,none⟩,c+1,Z,f++[(a.place,ψ am n4 ao)],t++[(kW a).1],V::e,y,rfl,?_,by omega,by omega,xE,au λA=>?_⟩;{rw[IJ];exact H.perm (.swap _ _ _)};exact((E.J qB).mono (λj _ aq M=>⟨M.1,λv x z=>M.2 v x λC B=>z C (.tail _ B)⟩)).snoc ⟨rfl,λv x z=>Q.J A v x λC B=>z C (by rw[a6.mp B];exact .head _)⟩);case measure=>rw[H.left,R.J];omega
theorem Pr.create(i:Pr o w p d m L):Calls prog 60 #[.pointer (some ⟨p,0,none⟩)] w λb w'=>
 ∃c a e f,b=τ (.iface 171 (χ #[θ (dc m.tk),ι κ m.place,ψ c a e]))/\Pr o w' p d ((dk uy (m.name.2.take cq)).2.take cY) (.inr (ψ c a e,168,3,a,f)::L)/\
   (((dk uy (m.name.2.take cq)).2.take cY).alive->f=XQ (dk uy (m.name.2.take cq)).1):=by have⟨q,k,fin⟩:=i.start;go_in;go_wp2_with fail;refine k.name.mono ?_;rintro b x ⟨rfl,l⟩;go_wp2_with fail;refine((l.new #[θ (dc m.tk),ι κ m.place] 110).sign J7).mono ?_;rintro b y ⟨rfl,n⟩;go_wp2_with fail;refine(lists.2.1 _ _ rfl rfl n (J1 p d)).mono ?_;rintro b z ⟨c,a,e,f,rfl,r,t⟩;have j:=au t;go_wp2_with fail;refine(r.sign Fv).mono ?_;rintro b A ⟨rfl,g⟩;have⟨u,v⟩:=fN g.drop.box;go_wp2;go_ret;exact⟨c,a,e,f,rfl,fin [_] g,λs=>j.J (jJ s)⟩
def Sj(m:Mode):Mode:=m.name.2.take zj
def grC(m:Mode):Mode:=(Sj m).name.2.take cq
def grE(m:Mode):Mode:=((jQ (grC m)).2.take cY).take dR
theorem Pr.BP(t:Pr o w p 0 m L):Calls prog 63 #[.pointer (some ⟨p,0,none⟩)] w λa w'=>
 ∃i b j k f g,a=τ (.iface 188 (χ #[θ (dc m.tk),ι κ m.place,θ (dc (Sj m).tk),ι κ (Sj m).place,ψ i b j,ι κ (grE m).place,.iface f g]))/\Pr o w' p 0 (mO (grE m)).2 (.inr (ψ i b j,110,2,b,k)::L)/\
   ((mO (grE m)).2.alive->k=EJ (jQ (grC m)).1/\.iface f g=pz (mO (grE m)).1.1):=by have⟨q,y,fin⟩:=t.start;go_in;go_wp2_with fail;refine y.name.mono ?_;rintro a N ⟨rfl,z⟩;go_wp2_with fail;refine((z.new #[θ (dc m.tk),ι κ m.place] 110).sign iOn).mono ?_;rintro a O ⟨rfl,n⟩;change Pr _ _ _ _ (Sj m) _ at n;go_wp2_with fail;refine n.name.mono ?_;rintro a P ⟨rfl,A⟩;go_wp2_with fail;refine((A.new #[θ (dc (Sj m).tk),ι κ (Sj m).place] 110).sign J7).mono ?_;rintro a Q ⟨rfl,r⟩;change Pr _ _ _ _ (grC m) _ at r;go_wp2_with fail;refine r.names.mono ?_;rintro a R ⟨i,b,j,k,rfl,B,e⟩;have u:=au e;go_wp2_with fail;refine(B.sign Fv).mono ?_;rintro a T ⟨rfl,C⟩;go_wp2_with fail;refine(C.sign uf).mono ?_;rintro a U ⟨rfl,c⟩;change Pr _ _ _ _ (grE m) _ at c;have x:=c.drew.formula;have⟨F,G⟩:=fN c.drop.box;have⟨D,E⟩:=fN c.drop.drop.box;go_wp2_with fail;go_region_with((with_reducible refine eu x ?_);rintro a V ⟨f,g,rfl,l,e⟩;have⟨H,I⟩:=fN l.drop.box;obtain⟨K,M⟩:=fN l.drop.drop.box;have v:=au e;clear e);all_goals (try go_wp2_with fail);go_ret;exact⟨i,b,j,k,f,g,rfl,fin [_] l,λs=>⟨u.J (jJ (jJ (ER s))),v.J s⟩⟩
end
def Sk(pl:Nat)(t:Nm):eZ:={ bare fB pl with table:=t }
inductive LN (w:ω) (base:Nat):υ->Bt->Prop
 | X8 (t:Nm) (cols:List (Nm×Nat)) (v:υ):w.ownsRow base 168 3 v cols.length (XQ cols)->LN w base (.iface 171 (χ #[θ t.1,ι κ t.2,v])) (.create t cols)
 | akt (t:Nm):LN w base (.iface 133 (χ #[θ t.1,ι κ t.2])) (.drop t)
 | aku (t:Nm) (v:υ) (vs:List (Nat×υ)) (rows:List wj):w.ownsRow base 174 2 v vs.length (uH vs)->Each (fun a r=>a.1=r.pl/\arU w base a.2 r) vs rows->LN w base (.iface 179 (χ #[θ t.1,ι κ t.2,v])) (.load t rows)
 | ae0 (u t:Nm) (cols:List Nm) (e:Ex) (pl:Nat) (v:υ):w.ownsRow base 110 2 v cols.length (EJ cols)->LN w base (.iface 188 (χ #[θ u.1,ι κ u.2,θ t.1,ι κ t.2,v,ι κ pl,pz e])) (.BP u t cols e pl)
 | X9 (u t:Nm):LN w base (.iface 136 (χ #[θ u.1,ι κ u.2,θ t.1,ι κ t.2])) (.ED u t)
 | ae1 (pl:Nat) (t:Nm) (v:υ) (vs:List (Nat×υ)) (ss:List eZ):w.ownsRow base 193 2 v vs.length (uH vs)->Each (fun a s=>a.1=s.pl/\O9 w base a.2 s) vs ss->LN w base (.iface 113 (χ #[ι κ pl,θ t.1,ι κ t.2,v])) (.query (Sk pl t :: ss))
section
variable {m:Mode} (hw:m.tk.wf)
include hw
theorem vh:m.is pR=decide (aV m.tk=30):=fG (i:=9) hw rfl (by decide)
theorem Fw:m.is zw=decide (aV m.tk=31):=fG (i:=10) hw rfl (by decide)
theorem Ka:m.is BQ=decide (aV m.tk=32):=fG (i:=11) hw rfl (by decide)
theorem H7:m.is xH=decide (aV m.tk=33):=fG (i:=12) hw rfl (by decide)
theorem Kc:m.is vC=decide (aV m.tk=34):=fG (i:=13) hw rfl (by decide)
theorem ae2:m.is fB=decide (aV m.tk=21):=fG (i:=0) hw rfl (by decide)
theorem VY(a:aV m.tk=30):bO m=(.create m.next.name.1 (dk uy (m.next.name.2.take cq)).1,(dk uy (m.next.name.2.take cq)).2.take cY):=by unfold bO;rw[vh hw,bU a];rfl
theorem ae3(a:aV m.tk=31):bO m=(.drop m.next.name.1,m.next.name.2):=by unfold bO;rw[vh hw,Fw hw,bU a,aN (show¬aV m.tk=30 by omega)];rfl
theorem ae4(a:aV m.tk=32):bO m=(.load m.next.name.1 (mW (kW m.next.name.2).2.len [(kW m.next.name.2).1] (kW m.next.name.2).2).1,(mW (kW m.next.name.2).2.len [(kW m.next.name.2).1] (kW m.next.name.2).2).2):=by unfold bO;rw[vh hw,Fw hw,Ka hw,bU a,aN (show¬aV m.tk=30 by omega),aN (show¬aV m.tk=31 by omega)];rfl
theorem aaI(a:aV m.tk=33):bO m=(.BP m.next.name.1 (Sj m.next).name.1 (jQ (grC m.next)).1 (mO (grE m.next)).1.1 (mO (grE m.next)).1.2,(mO (grE m.next)).2):=by unfold bO;rw[vh hw,Fw hw,Ka hw,H7 hw,bU a,aN (show¬aV m.tk=30 by omega),aN (show¬aV m.tk=31 by omega),aN (show¬aV m.tk=32 by omega)];rfl
theorem VZ(a:aV m.tk=34):bO m=(.ED m.next.name.1 (Sj m.next).name.1,(Sj m.next).name.2):=by unfold bO;rw[vh hw,Fw hw,Ka hw,H7 hw,Kc hw,bU a,aN (show¬aV m.tk=30 by omega),aN (show¬aV m.tk=31 by omega),aN (show¬aV m.tk=32 by omega),aN (show¬aV m.tk=33 by omega)];rfl
theorem ae5(a:aV m.tk=21):bO m=(.query (cO m.next.name.2.len [Sk m.place m.next.name.1] m.next.name.2).1,(cO m.next.name.2.len [Sk m.place m.next.name.1] m.next.name.2).2):=by
 have b:m.take fB=m.next:=by unfold Mode.take;rw[ae2 hw,bU a];rfl
 unfold bO;rw[vh hw,Fw hw,Ka hw,H7 hw,Kc hw,b,aN (show¬aV m.tk=30 by omega),aN (show¬aV m.tk=31 by omega),aN (show¬aV m.tk=32 by omega),aN (show¬aV m.tk=33 by omega),aN (show¬aV m.tk=34 by omega)];rfl
theorem ae6(c:¬aV m.tk=30)(e:¬aV m.tk=31)(f:¬aV m.tk=32)(g:¬aV m.tk=33)(i:¬aV m.tk=34)(b:¬aV m.tk=21):(bO m).2=m.wrong 2:=by
 have j:m.take fB=m.wrong 2:=by unfold Mode.take;rw[ae2 hw,aN b];rfl
 have⟨k,l,a⟩:=xS m 2;unfold bO;rw[vh hw,Fw hw,Ka hw,H7 hw,Kc hw,j,aN c,aN e,aN f,aN g,aN i,a];rfl
end
theorem aaJ{m:Mode}:∀{a:Nat} {b:List wj},(mW a b m).2.alive->m.alive:=by intro a b;induction a generalizing b m with|zero=>exact id|succ a f=>unfold mW;split;{intro e;have c:=f e;exact qp.mpr (ag (qp.mp c) (ag (zC m) (take_len m cq)))};exact id
theorem Sl{m:Mode}:∀{a:Nat} {b:List eZ},(cO a b m).2.alive->m.alive:=by intro a b;induction a generalizing b m with|zero=>exact id|succ a f=>unfold cO;split;{intro e;have c:=f e;exact qp.mpr (ag (qp.mp c) (ag (MW m.next) dD))};exact id
section
variable {o:ω×Option Nat} {w w':ω} {p d:Nat} {m:Mode} {L:List It}
theorem Pr.command(H:Pr o w p 0 m L):Calls prog 44 #[.pointer (some ⟨p,0,none⟩)] w λg w'=>
 ∃y l,g=τ y/\Ua y/\Pr o w' p 0 (bO m).2 (l++L)/\((bO m).2.alive->∀j k,(∀A∈l,IB k j A)->LN j k y (bO m).1):=by
 have⟨q,X,fin⟩:=H.start;have hw:=H.wf;have K:=X.take;have⟨a,n⟩:=nm (aV m.tk);rw[<- n]at K;rcases(show a=30\/a=31\/a=32\/a=33\/a=34\/a=21\/(¬a=30/\¬a=31/\¬a=32/\¬a=33/\¬a=34/\¬a=21)by omega)with rfl|rfl|rfl|rfl|rfl|rfl|⟨e,P,Q,R,T,U⟩
 all_goals
  (try
    have e1:((a:Int)==30)=false:=Ft e;have N:((a:Int)==31)=false:=Ft P;have e3:((a:Int)==32)=false:=Ft Q;have e4:((a:Int)==33)=false:=Ft R;have e5:((a:Int)==34)=false:=Ft T;have e6:((a:Int)==21)=false:=Ft U)
  first
   |have f:=au (VY hw n.symm)
   |have f:=au (ae3 hw n.symm)
   |have f:=au (ae4 hw n.symm)
   |have f:=au (aaI hw n.symm)
   |have f:=au (VZ hw n.symm)
   |have f:=au (ae5 hw n.symm)
   |have f:=au (ae6 hw (by omega) (by omega) (by omega) (by omega) (by omega) (by omega))
  (try clear e P Q R T U);clear n;go_in;go_wp2_with fail;refine K.mono ?_;rintro g w0 ⟨rfl,s⟩;go_wp2_with fail
 {refine(s.new _ _).create.mono ?_;rintro g u ⟨E,D,F,Z,rfl,b,i⟩;have r:=au i;clear i;go_wp2;go_ret;rw[f.J];refine⟨_,[_],rfl,.inr ⟨_,_,rfl⟩,fin [_] b,λc j k e=>?_⟩;have B:=r.J c;subst B;rw[<- (om m.next).2 (jJ (Ma (J1 0 0).2.1 (jJ c)))];have t:=rY (l:=(dk uy (m.next.name.2.take cq)).1) b.row (λ_=>rfl) (by decide);exact .X8 (dc m.next.tk,m.next.place) _ _ (t ▸ e _ (.head _))};{refine(s.new _ _).name.mono ?_;rintro g u ⟨rfl,b⟩;go_wp2;go_ret;rw[f.J];refine⟨_,[],rfl,.inr ⟨_,_,rfl⟩,fin [] b,λc j k e=>?_⟩;rw[<- (om m.next).2 c];exact .akt (dc m.next.tk,m.next.place)};{refine(s.new _ _).load.mono ?_;rintro g u ⟨E,D,F,x,l,rfl,b,i⟩;have r:=au i;clear i;go_wp2;go_ret;rw[f.J];refine⟨_,.inr _::l,rfl,.inr ⟨_,_,rfl⟩,fin (.inr _::l) b,λc j k e=>?_⟩;rw[<- (om m.next).2 (jJ (back (zC _) (aaJ c)))];have t:=rY (l:=x) b.row (λ_=>rfl) (by decide);exact .aku (dc m.next.tk,m.next.place) _ x _ (t ▸ e _ (.head _)) ((r.J c).mono λA _ g O=>⟨O.1,O.2 j k λG C=>e G (.tail _ C)⟩)};{refine(s.new _ _).BP.mono ?_;rintro g u ⟨E,D,F,Z,ab,y,rfl,b,i⟩;have r:=au i;clear i;go_wp2;go_ret;rw[f.J];refine⟨_,[_],rfl,.inr ⟨_,_,rfl⟩,fin [_] b,λc j k e=>?_⟩;have⟨B,N⟩:=r.J c;subst B;have M:(grC m.next).alive:=Ma dW (jJ (jJ (ER c)));have aT:(Sj m.next).alive:=back (dW _) (jJ M);have t:=rY (l:=(jQ (grC m.next)).1) b.row (λ_=>rfl) (by decide);rw[<- (om m.next).2 (jJ aT),<- (om (Sj m.next)).2 (jJ M),N];exact .ae0 (dc m.next.tk,m.next.place) (dc (Sj m.next).tk,(Sj m.next).place) _ _ _ _ (t ▸ e _ (.head _))};{refine(s.new _ _).name.mono ?_;rintro g u ⟨rfl,b⟩;go_wp2_with fail;refine((b.new #[θ (dc m.next.tk),ι κ m.next.place] 110).sign iOn).mono ?_;rintro g w2 ⟨rfl,z⟩;change Pr _ _ _ _ (Sj m.next) _ at z;have W:=z.drew.name;have⟨n0,n1⟩:=fN z.box;go_wp2_with fail;go_region_with((with_reducible refine eu W ?_);rintro g w3 ⟨rfl,I⟩;have⟨u0,u1⟩:=fN I.box);all_goals (try go_wp2_with fail);go_ret;rw[f.J];refine⟨_,[],rfl,.inr ⟨_,_,rfl⟩,fin [] I,λc j k e=>?_⟩;rw[<- (om m.next).2 (jJ (back (dW _) c)),<- (om (Sj m.next)).2 c];exact .X9 (dc m.next.tk,m.next.place) (dc (Sj m.next).tk,(Sj m.next).place)};{refine((s.new _ _).query m.place (Sk m.place m.next.name.1)).mono ?_;rintro g u ⟨E,D,F,x,Y,l,rfl,b,v,i⟩;have r:=au i;have V:=au v;clear i v;go_wp2;go_ret;rw[f.J];refine⟨_,.inr _::l,rfl,.inr ⟨_,_,rfl⟩,fin (.inr _::l) b,λc j k e=>?_⟩;show LN _ _ _ (.query (cO m.next.name.2.len [Sk m.place m.next.name.1] m.next.name.2).1);rw[V.J,<- (om m.next).2 (Sl c)];have t:=rY (l:=x) b.row (λ_=>rfl) (by decide);exact .ae1 m.place (dc m.next.tk,m.next.place) _ x Y (t ▸ e _ (.head _)) ((r.J c).mono λA _ aa v=>⟨v.1,v.2 j k λG C=>e G (.tail _ C)⟩)};refine((s.new _ _).refuse _ _ _ _).mono ?_;rintro g u ⟨rfl,b⟩;rw[qo]at b;go_wp2;go_ret;rw[f.J];exact⟨_,[],rfl,.inl rfl,fin [] b,λc=>absurd c (dz m 2)⟩
end
def Sm(m:Mode):Mode:=match m with
 |.live ⟨.stop,_⟩ _=>m
 |_=>m.wrong 2
theorem aiC{S:ByteArray}(f:S.size<=300):fg S=match Sm (bO (Mode.of (dv S 0))).2 with
 |.dead b a=>.inr (b,a)
 |.live _ _=>.inl (bO (Mode.of (dv S 0))).1:=by
 unfold fg;rw[aE (by omega)];simp only;generalize (bO (Mode.of (dv S 0))).2=M
 cases M with
 |dead b a=>rfl
 |live e i=>
   obtain⟨c,g⟩:=e
   cases c<;>rfl
theorem aaK{m:Mode}(hw:m.tk.wf):(aV m.tk=0->Sm m=m/\m.alive)/\(¬aV m.tk=0->Sm m=m.wrong 2):=by unfold Sm;cases m with|dead g f=>(exact⟨λa=>by simp[Mode.tk,aV]at a,λ_=>rfl⟩)|live e j=>obtain⟨c,i⟩:=e;cases c with|stop=>exact⟨λ_=>⟨rfl,trivial⟩,λa=>absurd rfl a⟩|bad=>(exact⟨λa=>by simp[Mode.tk,aV]at a,λ_=>rfl⟩)|name b=>(exact⟨λa=>by simp[Mode.tk,aV]at a,λ_=>rfl⟩)|num b=>(exact⟨λa=>by simp[Mode.tk,aV]at a,λ_=>rfl⟩)|str b=>(exact⟨λa=>by simp[Mode.tk,aV]at a,λ_=>rfl⟩)|sign b=>(exact⟨λa=>by simp[Mode.tk,aV]at a,λ_=>rfl⟩)|word b=>exact⟨λa=>by simp[Mode.tk,aV]at a,λ_=>rfl⟩
def arW(w:ω)(base:Nat)(v:υ)(c:Bt):Prop:=∀W:ω,(∀g,base<=g->g<w.heap.size->W.heap[g]?=w.heap[g]?)->LN W base v c
def H8(w':ω)(base:Nat)(r:Ending)(S:ByteArray):Prop:=
 ∃v e b,r=τ (.tuple #[v,χ #[ι κ (e:Nat),ι κ (b:Nat)]])/\Ua v/\match fg S with
   |.inl c=>e=0/\arW w' base v c
   |.inr q=>e=q.1/\b=q.2/\e≠0
theorem Ke{w f:ω}{p:Nat}(a:Below w.heap.size w x)(b:aY (Other p x) x f)(g:w.heap.size<=p):Below w.heap.size w f:=
 ⟨b.os.trans a.os,b.tape.trans a.tape,b.output.trans a.output,ag a.size b.size,λc e=>(b.block c ⟨by omega,ai e a.size⟩).trans (a.block c e)⟩
theorem V0{w:ω}(c:Below w.heap.size w x)(a b:υ):Below w.heap.size w ((x.setCell (Ad w.heap.size 0) a).setCell (Ad w.heap.size 1) b):=
 (c.setCell (p:=(Ad w.heap.size 0)) (ae _) a).setCell (p:=(Ad w.heap.size 1)) (ae _) b
def aiD(e b:Nat):Mode->Prop
 |.live _ _=>e=0
 |.dead e' b'=>e=e'/\b=b'/\e≠0
theorem Pr.wrong{o:ω×Option Nat}{w:ω}{p d:Nat}{m:Mode}{L:List It}(S:Pr o w p d m L):∃c b:Nat,w.cell? (Ad p 3)=some (ι κ c)/\w.cell? (Ad p 4)=some (ι κ b)/\Hid (aiD c b m):=by obtain⟨e,i,a,-⟩:=S.ex;refine⟨e.e,e.b,a.xC.cell 3,a.xC.cell 4,au ?_⟩;have:=a.mode;cases m with|live j k=>exact this.1|dead f g=>exact⟨this.1,this.2.1,this.1 ▸ this.2.2.1⟩
theorem aaL(S:ByteArray)(w:ω)(F:S.size<=300)(e:Dx w)(X:Qa w):Calls prog 26 #[θ S] w λt w'=>
 H8 w' w.heap.size t S/\Below w.heap.size w w':=by
 have oy:=e.size;have y:Below w.heap.size w (w.alloc (.cells #[ι κ 0,ι κ 0] 76)):=(ah _ _).alloc (ae _) _;have al:=T0 S (w.alloc (.cells #[ι κ 0,ι κ 0] 76)) F (e.below y oy);have HO:=au (λs H G=>(y.cell (p:=(Ad 8 s)) (by show 8<_;omega)).trans (X s H G));have Cr:=au y;clear e X y;go_in;go_wp2_with fail;refine al.mono ?_;rintro t i ⟨v1,rfl,x,u⟩;obtain⟨I,K,rfl⟩:=P8 x;have⟨f,n⟩:=nm (i.alloc (.cells #[ψ I (dv S 0).length K,ι κ 0,ι κ 0,ι κ 0,ι κ 0] 102));have oz:w.heap.size+1<=i.heap.size:=by have:=u.size;simpa using this
 have v:=pq n;have S0:Pr (f,(Value.slice I (dv S 0).length K).ownBlock) f i.heap.size 0 (Mode.of (dv S 0)) []:=
  ⟨⟨⟨ψ I (dv S 0).length K,0,0,0,0⟩,dv S 0,nu.begin F (by rw[n];exact ak i _) (fj (uF x (aY.Dm v) (λl e=>(x.lt l e).2)) (aI _)) (λk=>by have:=(x.lt _ k).2;omega),rfl,λl e=>⟨.inl e,λj c=>by cases c⟩⟩,aY.refl _ _,(λj c=>by cases c),.nil,⟨by omega,by show i.heap.size<f.heap.size;rw[n];simp⟩,λs H G=>(v.cell (p:=(Ad 8 s)) (by show 8<_;omega)).trans ((u.cell (p:=(Ad 8 s)) (by simp;omega)).trans (HO.J s H G))⟩
 have g:i.heap.size+1=f.heap.size:=by rw[n];simp
 have HF:=au ((v.block w.heap.size (by omega)).trans ((u.block w.heap.size (by simp)).trans (ak w (.cells #[ι κ 0,ι κ 0] 76))));have HB:=au ((Cr.J.trans (u.mono (by simp))).trans (v.mono (by omega)));have aa:=S0.command;have HZ:=au g;have cQ:i.heap.size<f.heap.size:=by omega
 clear x u v g;go_wp2_with fail;rw[<- n];clear n;refine aa.mono ?_;rintro t w3 ⟨Z,ao,rfl,W,S3,U⟩;have P:=au U;have ad:=au W;clear U W;go_wp2_with fail;refine S3.next.mono ?_;rintro t M ⟨rfl,z⟩;have⟨a,E⟩:=nm ((bO (Mode.of (dv S 0))).2);rw[<- E]at z P ⊢;have C:=aaK z.wf;have hf:=λw=>(wN (aV a.tk) a.place (dc a.tk) (gP a.tk) w).1;have Xi:Hid (fg S=match Sm a with
  |.dead k A=>.inr (k,A)
  |.live _ _=>.inl (bO (Mode.of (dv S 0))).1):=au (by rw[E];exact aiC F)
 clear E;by_cases g:aV a.tk=0;(case' pos=>have an:((aV a.tk:Int) != 0)=false:=(by rw[g];rfl);have⟨r,Y⟩:=C.1 g;have b:=z;have Q:=au (show(Sm a).alive->a.alive fromλ_=>Y);rw[<- r]at b;clear C r Y g);(case' neg=>have an:((aV a.tk:Int) != 0)=true:=(by rw[jD];omega);have r:=C.2 g;have Q:=au (show(Sm a).alive->a.alive fromλc=>by rw[r]at c;exact absurd c (dz a 2));have ac:=au r;clear C r g;go_wp2_with fail;refine z.next.mono ?_;rintro t w5 ⟨rfl,S5⟩;go_wp2_with fail;refine(S5.refuse _ _ _ _).mono ?_;rintro t M ⟨rfl,b⟩;change Pr _ _ _ _ (a.wrong 2) _ at b;rw[<- ac.J]at b);all_goals
  have⟨k,A,p3,p4,ab⟩:=b.wrong;have D:=(b.fr.block w.heap.size ⟨by omega,by show _<f.heap.size;omega⟩).trans HF.J;have⟨q0,q1⟩:=fN D;have aq:=bY D;have fy:¬(i.heap.size=w.heap.size):=by omega
  have uT:Hid (∀N O,H8 (((M.setCell (Ad w.heap.size 0) N).setCell (Ad w.heap.size 1) O).drew) w.heap.size (τ (.tuple #[Z,χ #[ι κ k,ι κ A]])) S/\Below w.heap.size w (((M.setCell (Ad w.heap.size 0) N).setCell (Ad w.heap.size 1) O).drew)):=au λN O=>by
   refine⟨⟨Z,k,A,rfl,ad.J,?_⟩,aH (V0 (Ke HB.J b.fr (by omega)) _ _)⟩;rw[Xi.J];have B:=ab.J;have R:=Q.J
   cases hE:Sm a with
   |dead j am=>rw[hE]at B;exact B
   |live j am=>
     rw[hE]at B R;refine⟨B,λap hV=>P.J (R trivial) _ _ λj c=>aci (Dy (b.ok j (eF _ c)) λl e=>?_) (show w.heap.size<=f.heap.size by omega)⟩;have⟨h3,T⟩:=BU (b.ok j (eF _ c)) e;have T:f.heap.size<=l:=T;have V:l≠w.heap.size:=by omega
     exact(hV l (by omega) (by simpa using h3)).trans ((az _ _ _ _ V).trans (az _ _ _ _ V))
  clear D;(try go_wp2_with fail);go_region;all_goals (try go_wp2_with fail);(try simp only[Exit.inBlock,Exit.then]);refine aD (v:=_) (by simp[results,results26,go_sem,q0,q1];rfl) rfl ?_;exact uT.J _ _
