import Derived.Test.YtcoaphfimellcaaGreatDoorFAD
import Derived.Test.YtcoaphfimellcaaGreatDoorFAE
set_option maxHeartbeats 0
set_option maxRecDepth 100000
namespace Go.Proofs.YtcoaphfimellcaaGreatDoor
open Go.RowKit
open _root_.Go.Proofs.Tryz
open Option renaming some→σ,none→ν
open Go.IntKind renaming i64→κ
open Go.Ending renaming returned→τ
open Go.Obj renaming cells→ξ
open Go renaming World→ω,Value→υ
open Go.RowKit renaming Below→δ
open Go.Value renaming int→ι,string→θ,slice→ψ,pointer→π,agg→χ
variable{i f:Nat}{r y j:υ}{s:ByteArray}{u:TypeId}{k:ω}{c:Option Addr}{e:List Nat}
def L7(w:ω):Prop:=∃m,w.cell? ⟨7,0,ν⟩=σ (ι κ m)
theorem L7.below{w w':ω}(c:L7 w)(j:δ i w w')(f:7<i):L7 w':=by obtain⟨m,e⟩:=c;exact⟨m,(j.cell (p:=⟨7,0,ν⟩) f).trans e⟩
theorem Below.drewN{a w:ω}(c:δ i a w)(n:Nat):δ i a (w.drewN n):=⟨c.os,c.tape,c.output,c.size,c.block⟩
theorem GA(c:ByteArray)(w:ω)(hT:c.size<=300)(P:0<c.size)(Q:L7 w)(hw:7<w.heap.size):Calls prog 80 #[θ c] w λs w'=>
 s=τ (.tuple #[Ir (qG c).1 0,ι κ (KZ (qG c))])/\δ w.heap.size w w':=by
 obtain⟨k,B⟩:=nm (c.extract 1 c.size);have ab:∀w,(Instr.slice 9 (θ c) (σ (ι κ 1)) ν ν).run prog w=.ok (θ k) w:=λw=>by rw[B];exact uD w 9 c underlying9 1 P
 have i:=ace c P;rw[<- B]at i;have O:k.size<=300:=by rw[B,dt];omega
 have C:δ w.heap.size w (w.alloc (vz 0 0 ⟨#[]⟩ 0)):=(ah _ _).alloc (ae _) _;obtain⟨mx,M⟩:=Q.below C hw;have hcut:=Tryz.strings_Cut k ⟨#[39]⟩ mx _ (by omega) M;have E:(Lib.cut k.data.toList [39]).1.length<=300:=(by unfold Lib.cut;split;{exact ag (List.length_take_le' _ _) (by rw[qa];exact O)};rw[qa];exact O);obtain⟨q,I⟩:=nm (Lib.cut k.data.toList [39]);have y:Calls prog 109 #[θ k,θ ⟨#[39]⟩] (w.alloc (vz 0 0 ⟨#[]⟩ 0)) λs w'=>s=τ (.tuple #[θ ⟨q.1.toArray⟩,θ ⟨q.2.1.toArray⟩,.bool q.2.2])/\∃n,w'=(w.alloc (vz 0 0 ⟨#[]⟩ 0)).drewN n:=(by rw[I];exact hcut);rw[<- I]at i E;obtain⟨x,rest,b⟩:=q;simp only at i E y;obtain⟨e,K⟩:=nm (⟨x.toArray⟩:ByteArray);have N:e.size=x.length:=by rw[K];simp[ByteArray.size]
 rw[<- K]at i y;rw[<- N]at i E;have Z:=y;have D:=au i;have Y:=C;clear hcut y i M Q C B I K;go_in;go_wp2_with fail;refine Z.mono ?_;rintro aa X ⟨rfl,n,W⟩;have H:δ (w.alloc (vz 0 0 ⟨#[]⟩ 0)).heap.size (w.alloc (vz 0 0 ⟨#[]⟩ 0)) X:=(by rw[W];exact Below.drewN (ah _ _) n);have f:X.heap[w.heap.size]?=σ (vz 0 0 ⟨#[]⟩ 0):=(H.block w.heap.size (by simp)).trans (ak w _);obtain⟨R,T,U,V⟩:=eQ f;have z0:=bY f 0;have z1:=bY f 1;have z2:=bY f 2;have z3:=bY f 3;have u:=Y.trans (H.mono (by simp));have A:=au f;clear H f W;cases b;{have r:=au (show qG c=(.bad,0)from by rw[D.J];rfl);clear A;go_wp2_with fail;(try simp only[Exit.inBlock,Exit.then]);refine aD (by simp[results,results80,go_sem,R,T,U,V];rfl) rfl ?_;refine⟨?_,qb u (ae _) _ _ _ _⟩;rw[r.J];rfl};cases lP:uE e;{have r:=au (show qG c=(.bad,0)from by rw[D.J,lP];rfl);clear A;go_wp2_with(go_at_call 110;refine(xP _ _).mono ?_;rintro r' w' ⟨rfl,rfl⟩);(try simp only[Exit.inBlock,Exit.then]);refine aD (by simp[results,results80,go_sem,R,T,U,V];rfl) rfl ?_;refine⟨?_,qb u (ae _) _ _ _ _⟩;rw[r.J];rfl};have r:=au (show qG c=(.str e,e.size+2)from by rw[D.J,lP];rfl);go_wp2_with(go_at_call 110;refine(xP _ _).mono ?_;rintro r' w' ⟨rfl,rfl⟩);refine(L6 e _ (by omega)).mono ?_;rintro aa w2 ⟨rfl,G⟩;have j:w2.heap[w.heap.size]?=σ (vz 0 0 ⟨#[]⟩ 0):=(G.block w.heap.size (by have:=ay A.J;omega)).trans A.J;obtain⟨y0,y1,y2,y3⟩:=eQ j;have x0:=bY j 0;have x1:=bY j 1;have x2:=bY j 2;have x3:=bY j 3;have jS:=u.trans (G.mono u.size);clear G j;go_wp2_with fail;(try simp only[Exit.inBlock,Exit.then]);refine aD (by simp[results,results80,go_sem,y0,y1,y2,y3];rfl) rfl ?_;refine⟨?_,qb jS (ae _) _ _ _ _⟩;rw[r.J];have s:(((e.size+2:Nat)):Int)=(x.length:Int)+2:=(by rw[N];omega);show _=Ending.returned (.tuple #[χ #[ι κ 4,ι κ 0,θ e,ι κ 0],ι κ (((e.size+2:Nat)):Int)]);rw[s]
def jI(T:ByteArray):Tk×Nat:=
 if h:0<T.size then(if da T[0]then tS T else if cX T[0]then xO T else if T[0].toNat=39 then qG T else qF T h)else(.stop,0)
structure Dx (w:ω):Prop where
 spelt:LY w
 apm:EL w
 max:L7 w
 size:12<=w.heap.size
theorem Dx.below{w w':ω}(c:Dx w)(e:δ i w w')(f:12<=i):Dx w':=
 ⟨c.spelt.below e (by omega),c.apm.below e (by omega),c.max.below e (by omega),ag c.size e.size⟩
theorem TY(c:ByteArray)(e:0<c.size):c.toList.isEmpty=false:=by cases hh:c.toList.isEmpty with|false=>rfl|true=>exfalso;have i:c.toList=[]:=List.isEmpty_iff.mp hh;have f:=eD c [];rw[i]at f;have j:c=bs []:=kA.mp f.symm;rw[j]at e;exact absurd e (by decide)
theorem pS(c:ByteArray)(w:ω)(A:c.size<=300)(k:0<c.size)(C:Dx w)(f:Tk×Nat)(e:(da c[0]=true/\f=tS c)\/(da c[0]=false/\cX c[0]=true/\f=xO c)\/(da c[0]=false/\cX c[0]=false/\c[0].toNat=39/\f=qG c)\/(da c[0]=false/\cX c[0]=false/\¬c[0].toNat=39/\f=qF c k)):Calls prog 58 #[θ c] w λH w'=>
 H=τ (.tuple #[Ir f.1 0,ι κ (KZ f)])/\δ w.heap.size w w':=by
 have y:δ w.heap.size w (w.alloc (vz 0 0 ⟨#[]⟩ 0)):=(ah _ _).alloc (ae _) _;have r:=C.below y C.size;have K:=r.size;have D:=y;have V:c.toList.isEmpty=false:=TY c k;rcases e with⟨u,e⟩|⟨u,s,e⟩|⟨u,s,I,e⟩|⟨u,s,I,e⟩
 all_goals
  have T:iV c[0].toNat=_:=u;(try have U:jP c[0].toNat=_:=s);(try have E:((c[0].toNat:Int)==39)=true:=by rw[dO];omega);(try have E:((c[0].toNat:Int)==39)=false:=by rw[aK];omega);first
   |have i:=au (K4 c _ A r.spelt (by omega));rw[<- e]at i
   |have i:=au (Gz c _ A k s r.apm (by omega));rw[<- e]at i
   |have i:=au (GA c _ A k r.max (by omega));rw[<- e]at i
   |have i:=au (K0 c.data.toList _ k r.spelt (by omega));rw[show qF ⟨c.data.toList.toArray⟩ k=f from e.symm]at i
  clear e;clear y r C K;go_in;go_wp2_with(first|(go_at_call 76;refine(xL _ _).mono ?_;rintro Q w' ⟨rfl,rfl⟩)|(go_at_call 78;refine(zE _ _).mono ?_;rintro Q w' ⟨rfl,rfl⟩));refine i.J.mono ?_;rintro W R ⟨rfl,B⟩;have j:R.heap[w.heap.size]?=σ (vz 0 0 ⟨#[]⟩ 0):=(B.block w.heap.size (by simp)).trans (ak w _);obtain⟨M,N,O,P⟩:=eQ j;have X:=bY j 0;have Y:=bY j 1;have Z:=bY j 2;have z3:=bY j 3;have G:=D.trans (B.mono (by simp));clear B j;unfold Ir;go_wp2_with fail;(try simp only[Exit.inBlock,Exit.then]);refine aD (v:=.tuple #[Ir f.1 0,ι κ (KZ f)]) (by simp[results,results58,go_sem,Ir,M,N,O,P];try rfl) rfl ?_;exact⟨rfl,qb G (ae _) _ _ _ _⟩
theorem GB(w:ω):Calls prog 58 #[θ ⟨#[]⟩] w λc w'=>
 c=τ (.tuple #[Ir .stop 0,ι κ 0])/\δ w.heap.size w w':=by go_in;go_wp2_with fail;(try simp only[Exit.inBlock,Exit.then]);refine aD (v:=.tuple #[Ir .stop 0,ι κ 0]) (by simp[results,results58,go_sem,Ir,aV,dc,gP];try rfl) rfl ?_;exact⟨rfl,(ah _ _).alloc (ae _) _⟩
theorem Iy(c:ByteArray)(w:ω)(j:c.size<=300)(k:Dx w):Calls prog 58 #[θ c] w λs w'=>
 s=τ (.tuple #[Ir (jI c).1 0,ι κ (KZ (jI c))])/\δ w.heap.size w w':=by by_cases e:0<c.size;{have i:jI c=(if da c[0]then tS c else if cX c[0]then xO c else if c[0].toNat=39 then qG c else qF c e):=ec e;cases hl:da c[0]with|true=>rw[i,aF hl];exact pS c w j e k _ (.inl ⟨hl,rfl⟩)|false=>rw[i,aE (by rw[hl];decide)];by_cases f:cX c[0]=true;{rw[aF f];exact pS c w j e k _ (.inr (.inl ⟨hl,f,rfl⟩))};rw[aE f];have f:cX c[0]=false:=(by simpa using f);by_cases r:c[0].toNat=39;{rw[aF r];exact pS c w j e k _ (.inr (.inr (.inl ⟨hl,f,r,rfl⟩)))};rw[aE r];exact pS c w j e k _ (.inr (.inr (.inr ⟨hl,f,r,rfl⟩)))};have i:jI c=(.stop,0):=gy e;have u:c=⟨#[]⟩:=(by apply NH;have:c.data.toList.length=0:=(by rw[qa];omega);rw[dC this]);rw[i,u];exact GB w
theorem lY(S:ByteArray)(c:Nat):(S.extract c S.size).size=S.size - c:=by rw[dt];omega
theorem xQ(S:ByteArray)(f:UInt8->Bool)(c e:Nat)(i:c+e<=S.size):c+aP (S.extract c S.size) f e=aP S f (c+e):=by rw[EO S f (c+e) i,EO (S.extract c S.size) f e (by rw[lY];omega),NG,vl];omega
theorem AY(S:ByteArray)(c e:Nat)(i:c+e<S.size):(S.extract c S.size)[e]'(by rw[lY];omega)=S[c+e]:=by have f:=PY (S.extract c S.size) e (by rw[lY];omega);rw[NG,jg,PY S (c+e) i]at f;exact(bk f).symm
theorem wM(S:ByteArray)(c a b:Nat):(S.extract c S.size).extract a b=S.extract (c+a) (c+b):=by apply NH;rw[ep,jl,fW,NG,ep,jl,fW,vl];congr 1;omega
theorem Iz(S:ByteArray)(c:Nat)(f:c<S.size)(k:0<(S.extract c S.size).size):dZ (S.extract c S.size) 0 k=dZ S c f:=by unfold dZ;have i:(S.extract c S.size)[0]=S[c]:=AY S c 0 f;have j:(if e:0+1<(S.extract c S.size).size then(S.extract c S.size)[0+1].toNat else 0)=(if e:c+1<S.size then S[c+1].toNat else 0):=(by by_cases e:c+1<S.size;{rw[ec e,ec (by rw[lY];omega)];exact a7 UInt8.toNat (AY S c 1 e)};rw[gy e,gy (by rw[lY];omega)]);simp only[i,j]
theorem YD(S:ByteArray)(c:Nat)(e:c<S.size):(jI (S.extract c S.size)).1=(ez S c e).1/\((ez S c e).1.ends=false->c+(jI (S.extract c S.size)).2=(ez S c e).2):=by
 have D:0<(S.extract c S.size).size:=by rw[lY];omega
 have G:(S.extract c S.size)[0]=S[c]:=AY S c 0 e;unfold jI;rw[ec D,G];unfold ez;by_cases r:da S[c]=true;{rw[aF r,aF r];have i:=xQ S da c 0 (by omega);have y:=fY S da c (by omega);have f:=wM S c 0 (aP (S.extract c S.size) da 0);rw[iZ]at i f;rw[i]at f;unfold tS;rw[f];simp only;by_cases C:8<aP S da c - c;{rw[aF C,aF (by omega)];exact⟨rfl,λe=>absurd (show true=false from e) (by decide)⟩};rw[aE C,aE (by omega)];split;{exact⟨rfl,λ_=>i⟩};exact⟨rfl,λ_=>i⟩};rw[aE r,aE r];by_cases k:cX S[c]=true;{rw[aF k,aF k];have i:=xQ S cX c 0 (by omega);have y:=fY S cX c (by omega);have f:=wM S c 0 (aP (S.extract c S.size) cX 0);rw[iZ]at i f;rw[i]at f;unfold xO;rw[f];simp only;by_cases A:19<aP S cX c - c\/9223372036854775807<mN (S.extract c (aP S cX c)).data.toList;{rw[aF A,aF (by omega)];exact⟨rfl,λe=>absurd (show true=false from e) (by decide)⟩};rw[aE A,aE (by omega)];exact⟨rfl,λ_=>i⟩};rw[aE k,aE k];by_cases u:S[c].toNat=39;{rw[aF u,aF u];have i:=xQ S fX c 1 (by omega);have y:=fY S fX (c+1) (by omega);unfold qG;simp only;by_cases B:aP S fX (c+1)<S.size;{have E:aP (S.extract c S.size) fX 1<(S.extract c S.size).size:=(by rw[lY];omega);rw[ec B,ec E];have H:(S.extract c S.size)[aP (S.extract c S.size) fX 1]=S[aP S fX (c+1)]:=(by have:=AY S c (aP (S.extract c S.size) fX 1) (by omega);rw[this];congr 1);rw[H];by_cases j:S[aP S fX (c+1)].toNat=39/\aP S fX (c+1) - c - 1<=12;{rw[aF j,aF ⟨j.1,by omega⟩];have f:=wM S c 1 (aP (S.extract c S.size) fX 1);rw[i]at f;rw[f];exact⟨rfl,λ_=>by simp only;omega⟩};rw[aE j,aE (λI=>j ⟨I.1,by omega⟩)];exact⟨rfl,λe=>absurd (show true=false from e) (by decide)⟩};rw[gy B,gy (by rw[lY];omega)];exact⟨rfl,λe=>absurd (show true=false from e) (by decide)⟩};rw[aE u,aE u];unfold qF;rw[Iz S c e D];simp only;by_cases s:dZ S c e=0;{rw[aF s,aF s];exact⟨rfl,λe=>absurd (show true=false from e) (by decide)⟩};rw[aE s,aE s];have y:=xF S c e;have f:=wM S c 0 (dZ S c e);rw[iZ]at f;rw[f];exact⟨rfl,λ_=>rfl⟩
def Ct(l:List Tok):List υ:=l.flatMap λt=>WM t.k t.pl
theorem YE(l:List Tok)(t:Tok):Ct (l++[t])=Ct l++WM t.k t.pl:=by simp[Ct]
theorem apn(f:Tk)(i:Nat):∀e∈WM f i,e.oneCell'=true:=by intro e c;simp[WM]at c;rcases c with rfl|rfl|rfl|rfl<;>rfl
theorem Tryz.YF:(prog.info? 106).map (λc=>(c.zero,c.size,c.bytes))=σ (σ (χ #[ι κ 0,ι κ 0,θ ByteArray.empty,ι κ 0]),4,40):=by kernel_rfl
theorem uF{c:Nat->Prop}{w w':ω}{size:Nat}{v:υ}{n:Nat}{xs:List υ}(e:w.ownsRow i u size v n xs)(y:aY c w w')(k:∀g,v.ownBlock=σ g->c g):w'.ownsRow i u size v n xs:=by
 refine⟨e.1,?_⟩;rcases e.2 with j|⟨g,cap,cur,f,s,r,A⟩
 {exact .inl j};exact .inr ⟨g,cap,cur,f,s,(y.block g (k g (by rw[f];rfl))).trans r,A⟩
theorem P8{w:ω}{size:Nat}{v:υ}{n:Nat}{xs:List υ}(f:w.ownsRow i u size v n xs):∃a e,v=ψ a n e:=by rcases f.2 with⟨c,j⟩|⟨r,k,_,c,_⟩;{exact⟨_,_,by rw[c,j]⟩};exact⟨_,_,c⟩
theorem YG{c:Tk}(e:c.ends=true):aV c=0\/aV c=1:=by cases c<;>first|exact .inl rfl|exact .inr rfl|(simp[Tk.ends]at e)
theorem YH{c:Tk}(e:c.ends=false):2<=aV c:=by cases c<;>first|(simp[Tk.ends]at e;done)|(simp only[aV];omega)
theorem YI(S:ByteArray)(c:Nat)(y:c<=S.size):∃j,j=(jI (S.extract (aP S bS c) S.size)).1/\((j.ends=true/\dv S c=[⟨j,aP S bS c⟩])\/(j.ends=false/\dv S c=⟨j,aP S bS c⟩::dv S (aP S bS c+(jI (S.extract (aP S bS c) S.size)).2)/\c<aP S bS c+(jI (S.extract (aP S bS c) S.size)).2/\aP S bS c+(jI (S.extract (aP S bS c) S.size)).2<=S.size)):=by refine⟨_,rfl,?_⟩;have B:=eP S bS c;have C:=fY S bS c y;by_cases e:aP S bS c<S.size;{have⟨s,k⟩:=YD S (aP S bS c) e;rw[s];by_cases i:(ez S (aP S bS c) e).1.ends=true;{refine .inl ⟨i,?_⟩;rw[dv];simp only[dif_pos e,dif_pos i];rw[Cq S _ e i]};have f:(ez S (aP S bS c) e).1.ends=false:=(by simpa using i);have u:=oF S _ e f;refine .inr ⟨f,?_,by rw[k f];omega,by rw[k f];exact u.2⟩;rw[k f,dv];simp only[dif_pos e,dif_neg i]};have A:aP S bS c=S.size:=(by omega);have r:jI (S.extract (aP S bS c) S.size)=(.stop,0):=gy (by rw[lY];omega);rw[r];refine .inl ⟨rfl,?_⟩;rw[dv];simp only[dif_neg e];rw[A]
theorem T0(S:ByteArray)(w:ω)(hS:S.size<=300)(r:Dx w):Calls prog 43 #[θ S] w λs w'=>
 ∃v,s=τ v/\w'.ownsRow w.heap.size 106 4 v (dv S 0).length (Ct (dv S 0))/\δ w.heap.size w w':=by
 have⟨i0,hi,lU,lV,lk⟩:=jc Tryz.YF;have HG:=au r;clear r;go_in;go_wp2;go_loopw[3,4] (λv T wr=>∃(i:Nat) (l:List Tok),T=ι κ i/\i<=S.size/\l.length<=i/\Hid (wr.ownsRow w.heap.size 106 4 v l.length (Ct l))/\Hid (l++dv S i=dv S 0)/\Hid (δ w.heap.size w wr)) (λ_ T _=>S.size - (intOf T).toNat);case atStart=>exact⟨0,[],rfl,aI _,ae _,au (iJ _ _ _ _),au rfl,au (ah _ _)⟩
 case round=>
  obtain⟨i,l,rfl,y,hl,O,HT,N⟩:=hrel;have⟨B,C⟩:=nm (S.extract i S.size);have GD:∀w,(Instr.slice 9 (θ S) (σ (ι κ i)) ν ν).run prog w=.ok (θ B) w:=λw=>by rw[C];exact uD w 9 S underlying9 i y
  have ap:B.size<=300:=by rw[C,lY];omega
  have⟨e,E⟩:=nm (aP S bS i);have Yw:=eP S bS i;have aa:=fY S bS i y;have Z:=xQ S bS i 0 y;rw[iZ,<- C,<- E]at Z;rw[<- E]at Yw aa;have⟨j,D⟩:=nm (S.extract e S.size);have Gx:∀w,(Instr.slice 9 (θ S) (σ (ι κ e)) ν ν).run prog w=.ok (θ j) w:=λw=>by rw[D];exact uD w 9 S underlying9 e aa
  have an:j.size<=300:=by rw[D,lY];omega
  have⟨c,G,Q⟩:=YI S i y;rw[<- E,<- D]at G Q;have⟨b,hb⟩:=nm (aP B bS 0);have Y:=TT B wr ap;rw[<- hb]at Y Z;have ar:(i:Int)+b=e:=by omega
  have ab:=au Y;have V:=Iy j wr an (HG.J.below N.J HG.J.size);rw[<- G]at V;have ac:=au V;have HK:=au G;have uG:=au Q;clear Y V G Q E hb C D Z;go_wp2_with(go_at_call 57;refine ab.J.mono ?_;rintro r' w' ⟨rfl,rfl⟩);refine ac.J.mono ?_;rintro ax f ⟨rfl,U⟩;have iC:=au ((N.J.trans (U.mono N.J.size)));have R:=au (uF O.J (aY.Dm U) (λg r=>(O.J.lt g r).2));have⟨va,vc,hv⟩:=P8 O.J;subst hv;have aq:w.heap.size<=f.heap.size:=iC.J.size;have ao:∀g,(Value.slice va l.length vc).ownBlock=σ g->g<f.heap.size:=λg r=>(R.J.lt g r).2;have ad:=au ((R.J.alloc (vz (aV c) e (dc c) (gP c))).alloc (vz (aV c) e (dc c) (gP c)));have zb:((f.alloc (vz (aV c) e (dc c) (gP c))).alloc (vz (aV c) e (dc c) (gP c))).heap[f.heap.size+1]?=σ (vz (aV c) e (dc c) (gP c)):=(by have:=ak (f.alloc (vz (aV c) e (dc c) (gP c))) (vz (aV c) e (dc c) (gP c));rwa[show(f.alloc (vz (aV c) e (dc c) (gP c))).heap.size=f.heap.size+1 from by simp]at this);have YJ:=au (World.news_of_block zb);have hold:((f.alloc (vz (aV c) e (dc c) (gP c))).alloc (vz (aV c) e (dc c) (gP c))).heap[f.heap.size]?=σ (vz (aV c) e (dc c) (gP c)):=(cw _ _ _ (by simp)).trans (ak f _);have al:=au hold;clear U zb hold;unfold Ir;go_wp2_with(at_builtin;refine cP _ rfl _ _ 99 rfl w.heap.size 106 i0 _ 4 40 underlying99 hi lU lV lk rfl (by decide) _ _ _ rfl ad.J ⟨f.heap.size+1,0,ν⟩ 1 1 (WM c e) rfl rfl YJ.J (apn c e) (by decide) ?c3 ?c4 ?c5 ?_);case c3=>unfold maxLen;omega
  case c4=>omega
  case c5=>simp;omega
  intro g cap M cj k eK;have zn:M.heap[f.heap.size]?=σ (vz (aV c) e (dc c) (gP c)):=(k.block f.heap.size (by simp;omega) (λs=>by have:=ao _ s.symm;omega)).trans al.J;obtain⟨u0,-,-,-⟩:=eQ zn;have P:=au (show M.ownsRow w.heap.size 106 4 (ψ (σ ⟨g,0,ν⟩) (l.length+1) cap) (l++[(⟨c,e⟩:Tok)]).length (Ct (l++[(⟨c,e⟩:Tok)]))from by
   rw[aw,YE];exact cj)
  have zo:=au (show δ w.heap.size w M from by
   have sI:δ w.heap.size f ((f.alloc (vz (aV c) e (dc c) (gP c))).alloc (vz (aV c) e (dc c) (gP c))):=((ah _ _).alloc aq _).alloc (by simp;omega) _;have ql:δ w.heap.size ((f.alloc (vz (aV c) e (dc c) (gP c))).alloc (vz (aV c) e (dc c) (gP c))) M:=⟨k.os,k.tape,k.output,k.size,λq I=>k.block q (by simp;omega) (λs=>by have:=(R.J.lt q s.symm).1;omega)⟩;exact(iC.J.trans sI).trans ql)
  clear cj k eK zn;rcases uG.J with⟨K,u⟩|⟨K,u,cQ,W⟩
  .have EI:l++[⟨c,e⟩]=dv S 0:=(by rw[<- HT.J,u]);have HF:=au EI;have A:aV c=0\/aV c=1:=YG K;clear EI u;rcases A with A|A
   {have e0:((aV c:Int)==0)=true:=(by rw[dO];omega);go_wp2;go_ret;refine⟨_,rfl,?_,zo.J⟩;rw[<- HF.J];exact P.J};have e0:((aV c:Int)==0)=false:=(by rw[aK];omega);have e1:((aV c:Int)==1)=true:=(by rw[dO];omega);go_wp2;go_ret;refine⟨_,rfl,?_,zo.J⟩;rw[<- HF.J];exact P.J
  have A:2<=aV c:=YH K;have e0:((aV c:Int)==0)=false:=(by rw[aK];omega);have e1:((aV c:Int)==1)=false:=(by rw[aK];omega);have X:KZ (jI j)=(jI j).2:=(by unfold KZ;rw[<- HK.J,aE (by rw[K];decide)]);have am:=au (show(l++[⟨c,e⟩])++dv S (e+(jI j).2)=dv S 0 from by rw[<- HT.J,u,bN];rfl);have⟨n,H⟩:=nm (KZ (jI j));rw[<- X,<- H]at cQ W;have⟨q,I⟩:=nm (e+n);have av:(e:Int)+n=q:=(by omega);rw[<- I]at cQ W;have HQ:=au I;have HN:=au (H.trans X);rw[<- H];clear X u H I;go_wp2;go_roundw;(case rel=>refine⟨q,l++[⟨c,e⟩],by first|rfl|go_num,W,by simp;omega,P,?_,zo⟩;have:=am.J;rw[<- HN.J,<- HQ.J]at this;exact au this);case measure=>simp[intOf];omega
structure qz where
 v:υ
 pos:Nat
 depth:Nat
 e:Nat
 b:Nat
def qH(x:qz):Array υ:=#[x.v,ι κ x.pos,ι κ x.depth,ι κ x.e,ι κ x.b]
def T3(w:ω)(p:Nat)(x:qz):Prop:=w.heap[p]?=σ (ξ (qH x) 102 (0,0))
theorem T3.cell{w:ω}{p:Nat}{x:qz}(c:T3 w p x)(e:Nat):w.cell? (Ad p e)=(qH x)[e]?:=by unfold T3 at c;simp[World.cell?,c]
theorem T3.fz{w:ω}{p:Nat}{x:qz}(c:T3 w p x)(e:Nat):w.frozen? (Ad p e)=false:=by unfold T3 at c;simp[World.frozen?,c]
theorem T3.lt{w:ω}{p:Nat}{x:qz}(c:T3 w p x):p<w.heap.size:=ay c
theorem T3.set{w:ω}{p:Nat}{x y:qz}(e:T3 w p x)(c:Nat)(v:υ)(f:(qH x).setIfInBounds c v=qH y):T3 (w.setCell (Ad p c) v) p y:=by unfold T3;rw[<- f];exact aQ w p c _ _ v e
def tU(x:qz)(l:List Tok):Mode->Prop
 |.live t ts=>x.e=0/\l.drop x.pos=t::ts
 |.dead e b=>x.e=e/\x.b=b/\e≠0/\l=[⟨.bad,0⟩]/\x.pos=0
def Tk.wf:Tk->Prop
 |.sign s=>s∈gd
 |.word s=>s∈cK
 |.num n=>n<=9223372036854775807
 |_=>True
structure nu (w:ω)(p:Nat)(x:qz)(m:Mode)(l:List Tok):Prop where
 xC:T3 w p x
 own:w.ownsRow 0 106 4 x.v l.length (Ct l)
 apart:x.v.ownBlock≠σ p
 mode:tU x l m
 few:l.length<=400
 wf:∀t∈l,t.k.wf
 fin:∀t,l.getLast?=σ t->t.k.ends=true
theorem acg(l:List Tok)(c e:Nat)(j:e<4):(Ct l)[c*4+e]?=(l[c]?).bind λt=>(WM t.k t.pl)[e]?:=by induction l generalizing c with|nil=>simp[Ct]|cons x l i=>have f:Ct (x::l)=WM x.k x.pl++Ct l:=(by simp[Ct]);rw[f];cases c with|zero=>(rw[cD (by simp[WM];omega)];simp)|succ c=>rw[bp (by simp[WM];omega)];have:(c+1)*4+e - (WM x.k x.pl).length=c*4+e:=(by simp[WM];omega);rw[this,i];simp
theorem tU.cur{x:qz}{l:List Tok}{m:Mode}(e:tU x l m):l[x.pos]?=σ ⟨m.tk,m.place⟩:=by cases m with|dead c b=>(obtain⟨-,-,-,rfl,f⟩:=e;rw[f];rfl)|live t i=>have c:l[x.pos]?=(l.drop x.pos)[0]?:=(by rw[jg];rfl);rw[c,e.2];rfl
theorem nu.slice{w:ω}{p:Nat}{x:qz}{m:Mode}{l:List Tok}(e:nu w p x m l):∃g cap,x.v=ψ (σ (Ad g 0)) l.length cap/\x.pos<l.length/\w.cell? (Ad g (x.pos*4))=σ (ι κ (aV m.tk))/\w.cell? (Ad g (x.pos*4+1))=σ (ι κ m.place)/\w.cell? (Ad g (x.pos*4+2))=σ (θ (dc m.tk))/\w.cell? (Ad g (x.pos*4+3))=σ (ι κ (gP m.tk))/\g<w.heap.size/\g≠p:=by
 have j:=e.mode.cur;have r:x.pos<l.length:=(aj.mp j).1;rcases e.own.2 with⟨_,y⟩|⟨g,cap,_,k,_⟩
 {omega}
 have f:=e.own;have i:=e.apart;rw[k]at f i;have get:∀c (_:c<4),w.cell? (Ad g (x.pos*4+c))=(WM m.tk m.place)[c]?:=λc u=>by
  rw[f.cellAt (x.pos*4+c) (by omega),acg l x.pos c u,j];rfl
 exact⟨g,cap,k,r,get 0 (by decide),get 1 (by decide),get 2 (by decide),get 3 (by decide),(f.lt g rfl).2,λs=>i (by simp[Value.ownBlock,s])⟩
theorem NK{w:ω}{p:Nat}{x:qz}{m:Mode}{l:List Tok}(c:nu w p x m l):Calls prog 45 #[π (σ (Ad p 0))] w λf w'=>
 f=τ (Ir m.tk m.place)/\δ w.heap.size w w':=by
 obtain⟨g,cap,e,k,j,c1,c2,c3,r,i⟩:=c.slice;have u:w.cell? (Ad p 0)=σ (ψ (σ (Ad g 0)) l.length cap):=(c.xC.cell 0).trans (by rw[<- e];rfl);have y:w.cell? (Ad p 1)=σ (ι κ x.pos):=c.xC.cell 1;have s:(x.pos:Int)<l.length:=by omega
 have A:=c.xC.lt;have B:=c.few;clear c;go_in;go_wp2_with fail;go_region;all_goals (try go_wp2_with fail);(try simp only[Exit.inBlock,Exit.then]);refine aD (v:=Ir m.tk m.place) (by simp[results,results45,go_sem,Ir];try rfl) rfl ?_;exact⟨rfl,aH ((ah _ _).alloc (ae _) _)⟩
theorem aY.qm{p:Nat}{w w':ω}(c:δ w.heap.size w w'):aY (Other p w) w w':=⟨c.os,c.tape,c.output,c.size,λf e=>c.block f e.2⟩
theorem aY.FL{p:Nat}{a b:ω}(c:aY (Other p a) a b)(f:aY (Other p b) b k):aY (Other p a) a k:=
 c.trans (f.mono (λ_ e=>⟨e.1,ai e.2 c.size⟩))
theorem nu.below{w w':ω}{p:Nat}{x:qz}{m:Mode}{l:List Tok}(c:nu w p x m l)(e:δ w.heap.size w w'):nu w' p x m l:=
 ⟨(e.block p c.xC.lt).trans c.xC,uF c.own (aY.Dm e) (λg f=>(c.own.lt g f).2),c.apart,c.mode,c.few,c.wf,c.fin⟩
theorem nu.put{w:ω}{p:Nat}{x y:qz}{m m':Mode}{l:List Tok}(c:nu w p x m l)(i:Nat)(v:υ)(j:(qH x).setIfInBounds i v=qH y)(e:y.v=x.v)(k:tU y l m'):nu (w.setCell (Ad p i) v) p y m' l:=by refine⟨c.xC.set i v j,?_,by rw[e];exact c.apart,k,c.few,c.wf,c.fin⟩;rw[e];refine c.own.kept (grownBy_setCell w (Ad p i) v) ?_;cases hb:x.v.ownBlock with|none=>exact .inl rfl|some g=>exact .inr (by simp;intro f;exact c.apart (by rw[hb,f]))
theorem YK{x:qz}{l:List Tok}{m:Mode}(e:tU x l m)(c:x.pos+1<l.length):tU { x with pos:=x.pos+1 } l m.next:=by cases m with|dead s b=>(obtain⟨-,-,-,rfl,r⟩:=e;rw[r]at c;exact absurd c (by decide))|live t i=>obtain⟨j,k⟩:=e;have f:l.drop (x.pos+1)=i:=(by rw[<- vl,k];rfl);cases i with|nil=>have:=a7 List.length f;rw[bW]at this;simp at this;omega|cons u y=>exact⟨j,f⟩
theorem YL{x:qz}{l:List Tok}{m:Mode}(c:tU x l m)(i:¬x.pos+1<l.length):m.next=m:=by cases m with|dead j b=>rfl|live t f=>obtain⟨k,e⟩:=c;cases f with|nil=>rfl|cons r s=>have:=a7 List.length e;rw[bW]at this;simp at this;omega
def ach(w:ω)(x x':qz):Prop:=∀g,x'.v.ownBlock=σ g->x.v.ownBlock=σ g\/w.heap.size<=g
structure FM (w w':ω)(p:Nat)(x:qz)(m':Mode):Prop where
 ex:∃x' l',nu w' p x' m' l'/\x'.depth=x.depth/\ach w x x'
 keeps:aY (Other p w) w w'
theorem nu.drewN{w:ω}{p:Nat}{x:qz}{m:Mode}{l:List Tok}(c:nu w p x m l)(n:Nat):nu (w.drewN n) p x m l:=⟨c.xC,c.own,c.apart,c.mode,c.few,c.wf,c.fin⟩
theorem nu.other{w:ω}{p:Nat}{x:qz}{m:Mode}{l:List Tok}(c:nu w p x m l)(f:i≠p)(j:x.v.ownBlock≠σ i)(e:Nat)(v:υ):nu (w.setCell (Ad i e) v) p x m l:=
 ⟨(az _ _ _ _ (Ne.symm f)).trans c.xC,c.own.kept (grownBy_setCell w (Ad i e) v) (.inr j),c.apart,c.mode,c.few,c.wf,c.fin⟩
theorem FM.apo{w:ω}{p:Nat}{x c:qz}{m':Mode}{l:List Tok}(s:nu k p c m' l)(u:c.depth=x.depth)(A:ach w x c)(B:aY (Other p w) w k)(C:p<w.heap.size)(y:∀g,c.v.ownBlock=σ g->g≠w.heap.size)(a b j d:υ) :
 FM w ((((k.setCell (Ad w.heap.size 0) a).setCell (Ad w.heap.size 1) b).setCell (Ad w.heap.size 2) j).setCell (Ad w.heap.size 3) d) p x m':=by
 have e:w.heap.size≠p:=by omega
 have f:c.v.ownBlock≠σ w.heap.size:=λr=>y _ r rfl;have i:¬Other p w w.heap.size:=λr=>bM _ r.2;exact⟨⟨c,l,(((s.other e f 0 a).other e f 1 b).other e f 2 j).other e f 3 d,u,A⟩,(((B.setCell (p:=(Ad w.heap.size 0)) i a).setCell (p:=(Ad w.heap.size 1)) i b).setCell (p:=(Ad w.heap.size 2)) i j).setCell (p:=(Ad w.heap.size 3)) i d⟩
theorem agP{w:ω}{p:Nat}{x:qz}{m:Mode}{l:List Tok}(c:nu w p x m l):Calls prog 59 #[π (σ (Ad p 0))] w λQ w'=>
 Q=τ (Ir m.tk m.place)/\FM w w' p x m.next:=by
 have y:δ w.heap.size w (w.alloc (vz 0 0 ⟨#[]⟩ 0)):=(ah _ _).alloc (ae _) _;have C:=c.below y;have T:=y;have E:=c.xC.lt;have D:=au (λg (V:x.v.ownBlock=σ g)=>Nat.ne_of_lt (c.own.lt g V).2);clear c y;go_in;go_wp2_with fail;refine(NK C).mono ?_;rintro Q e ⟨rfl,i⟩;obtain⟨u,r⟩:=nm (e.alloc (vz (aV m.tk) m.place (dc m.tk) (gP m.tk)));have A:δ w.heap.size w e:=T.trans (i.mono (by simp));have s:=pq r;have f:=(C.below i).below s;have I:u.heap[e.heap.size]?=σ (vz (aV m.tk) m.place (dc m.tk) (gP m.tk)):=by rw[r];exact ak e _
 have j:u.heap[w.heap.size]?=σ (vz 0 0 ⟨#[]⟩ 0):=(s.block w.heap.size (by have:=i.size;simp at this;omega)).trans ((i.block w.heap.size (by simp)).trans (ak w _));obtain⟨t0,t1,t2,t3⟩:=eQ I;obtain⟨M,N,O,P⟩:=eQ j;have z0:=bY j 0;have z1:=bY j 1;have z2:=bY j 2;have z3:=bY j 3;obtain⟨g,cap,G,Z,-⟩:=f.slice;have p0:u.cell? (Ad p 0)=σ (ψ (σ (Ad g 0)) l.length cap):=(f.xC.cell 0).trans (by rw[<- G];rfl);have p1:u.cell? (Ad p 1)=σ (ι κ x.pos):=f.xC.cell 1;have f1:=f.xC.fz 1;have xK:=f.few;have aa:¬(p=w.heap.size):=by omega
 have oy:w.heap.size<e.heap.size:=by have:=i.size;simp at this;omega
 have fy:¬(e.heap.size=w.heap.size):=by omega
 have X:¬(e.heap.size=p):=by omega
 have Y:¬(p=e.heap.size):=by omega
 have H:=A.trans (s.mono A.size);have k:=f;have R:=au r;clear i A s f I j r G;unfold Ir;by_cases K:x.pos+1<l.length;{have W:(x.pos:Int)<(l.length:Int) - 1:=(by omega);go_wp2_with fail;rw[<- R.J];go_quiet(fail);go_wp2_with fail;(try simp only[Exit.inBlock,Exit.then]);refine aD (v:=Ir m.tk m.place) (by simp[results,results59,go_sem,Ir,M,N,O,P];try rfl) rfl ?_;have B:=(aY.drewN (aY.qm (p:=p) H) nq).own 1 (ι κ ((x.pos:Int)+1));exact⟨rfl,FM.apo (x:=x) ((k.drewN nq).put (y:={ x with pos:=x.pos+1 }) 1 (ι κ ((x.pos:Int)+1)) (by simp[qH]) rfl (YK k.mode K)) rfl (λ_ c=>.inl c) B E D.J _ _ _ _⟩};have W:¬(x.pos:Int)<(l.length:Int) - 1:=(by omega);have U:=au (YL k.mode K);go_wp2_with fail;rw[<- R.J];go_quiet(fail);go_wp2_with fail;(try simp only[Exit.inBlock,Exit.then]);refine aD (v:=Ir m.tk m.place) (by simp[results,results59,go_sem,Ir,M,N,O,P];try rfl) rfl ?_;have B:=aY.drewN (aY.qm (p:=p) H) nq;rw[U.J];exact⟨rfl,FM.apo (x:=x) (k.drewN nq) rfl (λ_ c=>.inl c) B E D.J _ _ _ _⟩
theorem sq(c b:Nat)(w:ω):Calls prog 27 #[χ #[ι κ c,ι κ b]] w λi w'=>i=τ (.bool (decide (c≠0)))/\δ w.heap.size w w':=by by_cases e:c=0;{have f:((c:Int) != 0)=false:=(by rw[e];rfl);go_in;go_wp2_with fail;go_ret;refine⟨by simp[e],(ah _ _).alloc (ae _) _⟩};have f:((c:Int) != 0)=true:=(by rw[jD];omega);go_in;go_wp2_with fail;go_ret;refine⟨by simp[e],(ah _ _).alloc (ae _) _⟩
theorem nu.lost{w wp:ω}{p:Nat}{x y:qz}(e:T3 wp p y)(s:y.e≠0)(k:y.pos=0)(f:y.v=ψ (σ (Ad wp.heap.size 0)) 1 1)(r:y.depth=x.depth)(i:aY (Other p w) w wp) :
 FM w (wp.alloc (vz 1 0 ⟨#[]⟩ 0)) p x (.dead y.e y.b):=by refine⟨⟨y,[⟨.bad,0⟩],⟨(cw _ _ _ e.lt).trans e,?_,?_,⟨rfl,rfl,s,rfl,k⟩,by simp,λt c=>?_,λt c=>?_⟩,r,λg j=>?_⟩,i.alloc (λq u=>ai u.2 i.size) _⟩;{rw[f];exact⟨by simp[Ct,WM],.inr ⟨wp.heap.size,1,#[ι κ 1,ι κ 0,θ ⟨#[]⟩,ι κ 0],rfl,aI _,ak wp _,by simp,by decide,by simp,by simp[Ct,WM,aV,dc,gP]⟩⟩};{rw[f];have:=e.lt;simp[Value.ownBlock];omega};{rw[a6]at c;subst c;trivial};{cases c;rfl};rw[f]at j;simp[Value.ownBlock]at j;have:=i.size;exact .inr (by omega)
theorem YN{x:qz}{l:List Tok}{m:Mode}(e:tU x l m)(j:x.e=0)(c b:Nat):m.fail c b=.dead c b:=by cases m with|dead r k=>(obtain⟨f,-,i,-⟩:=e;exact absurd (f.symm.trans j) i)|live t s=>rfl
theorem YO{x:qz}{l:List Tok}{m:Mode}(c:tU x l m)(j:¬x.e=0)(e b:Nat):m.fail e b=.dead x.e x.b:=by cases m with|dead r k=>(obtain⟨f,i,-⟩:=c;rw[f,i];rfl)|live t s=>exact absurd c.1 j
theorem agQ{w:ω}{p:Nat}{x:qz}{m:Mode}{l:List Tok}(y:nu w p x m l)(f b:Nat)(O:f≠0):Calls prog 66 #[π (σ (Ad p 0)),χ #[ι κ f,ι κ b]] w λE w'=>
 E=τ (.tuple #[])/\FM w w' p x (m.fail f b):=by have P:=y.xC.lt;have s:δ w.heap.size w (w.alloc (iQ f b)):=(ah _ _).alloc (ae _) _;have k:=y.below s;have T:(w.alloc (iQ f b)).cell? (Ad p 3)=σ (ι κ x.e):=k.xC.cell 3;have U:(w.alloc (iQ f b)).cell? (Ad p 4)=σ (ι κ x.b):=k.xC.cell 4;have H:=k;have G:=s;clear y s k;by_cases r:x.e=0;{have j:=au r;clear r;go_in;go_wp2_with fail;refine(sq x.e x.b _).mono ?_;rintro E e ⟨rfl,i⟩;have c:=H.below i;have u:=c;have A:decide (x.e≠0)=false:=(by simp[j.J]);have K:e.cell? (Ad p 0)=σ x.v:=c.xC.cell 0;have c1:e.cell? (Ad p 1)=σ (ι κ x.pos):=c.xC.cell 1;have c3:e.cell? (Ad p 3)=σ (ι κ x.e):=c.xC.cell 3;have c4:e.cell? (Ad p 4)=σ (ι κ x.b):=c.xC.cell 4;have M:=c.xC.fz 0;have N:=c.xC.fz 1;have Q:=c.xC.fz 3;have R:=c.xC.fz 4;have D:e.heap[w.heap.size]?=σ (iQ f b):=(i.block w.heap.size (by simp)).trans (ak w _);have V:e.cell? (Ad w.heap.size 0)=σ (ι κ f):=(by simp[World.cell?,D]);have W:e.cell? (Ad w.heap.size 1)=σ (ι κ b):=(by simp[World.cell?,D]);have B:=G.trans (i.mono (by simp));have I:=c.xC.lt;rw[A];clear i c D;go_wp2_with fail;go_end0;refine⟨rfl,?_⟩;have c:=u;rw[YN c.mode j.J];have C:=((((aY.qm (p:=p) B).own 3 (ι κ f)).own 4 (ι κ b)).own 0 (ψ (σ (Ad e.heap.size 0)) 1 1)).own 1 (ι κ 0);exact nu.lost (y:=⟨ψ (σ (Ad e.heap.size 0)) 1 1,0,x.depth,f,b⟩) ((((c.xC.set (y:=⟨x.v,x.pos,x.depth,f,x.b⟩) 3 _ (by simp[qH])).set (y:=⟨x.v,x.pos,x.depth,f,b⟩) 4 _ (by simp[qH])).set (y:=⟨ψ (σ (Ad e.heap.size 0)) 1 1,x.pos,x.depth,f,b⟩) 0 _ (by simp[qH])).set 1 _ (by simp[qH])) O rfl (by simp[World.setCell]) rfl C};have j:=au r;clear r;go_in;go_wp2_with fail;refine(sq x.e x.b _).mono ?_;rintro E e ⟨rfl,i⟩;have c:=H.below i;have u:=c;have A:decide (x.e≠0)=true:=(by simp[j.J]);have K:e.cell? (Ad p 0)=σ x.v:=c.xC.cell 0;have c1:e.cell? (Ad p 1)=σ (ι κ x.pos):=c.xC.cell 1;have M:=c.xC.fz 0;have N:=c.xC.fz 1;have B:=G.trans (i.mono (by simp));have I:=c.xC.lt;rw[A];clear i c;go_wp2_with fail;go_end0;refine⟨rfl,?_⟩;have c:=u;rw[YO c.mode j.J];have C:=((aY.qm (p:=p) B).own 0 (ψ (σ (Ad e.heap.size 0)) 1 1)).own 1 (ι κ 0);exact nu.lost (y:=⟨ψ (σ (Ad e.heap.size 0)) 1 1,0,x.depth,x.e,x.b⟩) ((c.xC.set (y:=⟨ψ (σ (Ad e.heap.size 0)) 1 1,x.pos,x.depth,x.e,x.b⟩) 0 _ (by simp[qH])).set 1 _ (by simp[qH])) j.J rfl (by simp[World.setCell]) rfl C
def opsL:List Nat:=[0,0,0,0,0,6,8,10,5,7,9,0,0,0,0,0,0,1,2,3,4,0,0,0,0,0,0,0,0,0,0,0,0,0,0,11,12]
def Qa(w:ω):Prop:=∀i n,opsL[i]?=σ n->w.cell? (Ad 8 i)=σ (ι κ (n:Nat))
abbrev It:=(Nat×Array Value×TypeId) ⊕ (Value×TypeId×Nat×Nat×List Value)
def itB:It->Option Nat
 |.inl a=>σ a.1
 |.inr a=>a.1.ownBlock
def IB(lo:Nat)(w:ω):It->Prop
 |.inl a=>w.heap[a.1]?=σ (ξ a.2.1 a.2.2 (0,0))/\lo<=a.1
 |.inr a=>w.ownsRow lo a.2.1 a.2.2.1 a.1 a.2.2.2.1 a.2.2.2.2
structure Pr (o:ω×Option Nat)(w:ω)(p d:Nat)(m:Mode)(L:List It):Prop where
 ex:∃x l,nu w p x m l/\x.depth=d/\∀g,x.v.ownBlock=σ g->(o.2=σ g\/o.1.heap.size<=g)/\∀a∈L,itB a≠σ g
 fr:aY (Other p o.1) o.1 w
 ok:∀a∈L,IB o.1.heap.size w a
 ap:L.Pairwise λa b=>∀g,itB a=σ g->itB b≠σ g
 lo:12<=p/\p<o.1.heap.size
 ops:Qa o.1
section
variable {o:ω×Option Nat} {w w':ω} {p d d' b lo lo' g cap n z:Nat} {m m':Mode} {L:List It} {a:It} {cs:Array υ} {t:TypeId} {v:υ} {xs ys:List υ} {x x':qz} {l l':List Tok}
theorem Dy(c:IB lo w a)(e:∀g,itB a=σ g->w'.heap[g]?=w.heap[g]?):IB lo w' a:=by
 cases a with
 |inl a=>exact⟨(e _ rfl).trans c.1,c.2⟩
 |inr a=>
  refine⟨c.1,?_⟩;rcases c.2 with i|⟨g,cap,cur,f,k,j,r⟩
  {exact .inl i};exact .inr ⟨g,cap,cur,f,k,(e g (by show a.1.ownBlock=_;rw[f];rfl)).trans j,r⟩
theorem BU(c:IB lo w a)(e:itB a=σ g):g<w.heap.size/\lo<=g:=by cases a with|inl a=>cases e;exact⟨(dq.mp c.1).1,c.2⟩|inr a=>exact(World.ownsRow.lt c g e).symm
theorem aci(c:IB lo w a)(e:lo'<=lo):IB lo' w a:=by cases a with|inl a=>exact⟨c.1,ag e c.2⟩|inr a=>exact fj c e
theorem Pr.go(S:Pr o w p d m L):∃x l,nu w p x m l/\x.depth=d/\∀{w' m' d' x' l'},nu w' p x' m' l'->x'.depth=d'->ach w x x'->aY (Other p w) w w'->Pr o w' p d' m' L:=by obtain⟨x,l,k,s,y⟩:=S.ex;refine⟨x,l,k,s,λ{w' m' d' x' l'} r u i f=>?_⟩;have B:=S.lo;have A:=S.fr.size;refine⟨⟨x',l',r,u,λg e=>?_⟩,S.fr.FL f,λa c=>Dy (S.ok a c) λg e=>f.block g ?_,S.ap,S.lo,S.ops⟩;{rcases i g e with q|q;{exact y g q};exact⟨.inr (by omega),λa c j=>by have:=(BU (S.ok a c) j).1;omega⟩};have:=BU (S.ok a c) e;exact⟨by omega,this.1⟩
theorem Pr.st(S:Pr o w p d m L):∃x l,nu w p x m l/\∀{w' m'},FM w w' p x m'->Pr o w' p d m' L:=by obtain⟨x,l,i,k,f⟩:=S.go;refine⟨x,l,i,λ{w' m'} c=>?_⟩;obtain⟨x',l',j,e,r⟩:=c.ex;exact f j (e.trans k) r c.keeps
theorem Pr.below(S:Pr o w p d m L)(e:δ w.heap.size w w'):Pr o w' p d m L:=by obtain⟨x,l,c,i,f⟩:=S.go;exact f (c.below e) i (λ_ c=>.inl c) (aY.qm e)
theorem Pr.alloc(S:Pr o w p d m L)(c:Obj):Pr o (w.alloc c) p d m L:=S.below ((ah _ _).alloc (ae _) c)
theorem Pr.drew(S:Pr o w p d m L):Pr o w.drew p d m L:=S.below (aH (ah _ _))
theorem Pr.wf(S:Pr o w p d m L):m.tk.wf:=by obtain⟨x,l,c,-⟩:=S.ex;exact c.wf _ (aA c.mode.cur)
theorem Pr.lt(S:Pr o w p d m L):p<w.heap.size:=ai S.lo.2 S.fr.size
theorem Pr.aln(S:Pr o w p d m L):Qa w:=λc n e=>by
 have f:=S.lo;exact(S.fr.cell (p:=(Ad 8 c)) ⟨by show 8≠p;omega,by show 8<_;omega⟩).trans (S.ops c n e)
theorem Pr.start(e:Pr o w p d m L):∃q,Pr (w,q) w p d m []/\∀{w' d' m'} (j:List It) {r:List It},Pr (w,q) w' p d' m' (j++r)->Pr o w' p d' m' (j++L):=by obtain⟨x,l,A,D,s⟩:=e.ex;have G:=e.lo;have u:=e.fr.size;refine⟨x.v.ownBlock,⟨⟨x,l,A,D,λg i=>⟨.inl i,λa c=>by cases c⟩⟩,aY.refl _ _,(λa c=>by cases c),.nil,⟨G.1,e.lt⟩,e.aln⟩,λ{w' d' m'} j {r} S=>?_⟩;obtain⟨x',l',B,E,k⟩:=S.ex;have hold:∀a∈L,∀g,itB a=σ g->g<w.heap.size/\o.1.heap.size<=g:=λa c g f=>BU (e.ok a c) f;have H:∀a∈j,∀g,itB a=σ g->w.heap.size<=g:=λa c g f=>(BU (S.ok a (eF _ c)) f).2;refine⟨⟨x',l',B,E,λg i=>⟨?_,λa c f=>?_⟩⟩,e.fr.FL S.fr,λa c=>?_,kL.mpr ⟨(kL.mp S.ap).1,e.ap,λa c b C g f y=>by have:=H a c g f;have:=(hold b C g y).1;omega⟩,e.lo,e.ops⟩;{rcases(k g i).1 with q|q;{exact(s g q).1};exact .inr (ag u q)};{rcases bn.mp c with c|c;{exact(k g i).2 a (eF _ c) f};rcases(k g i).1 with q|q;{exact(s g q).2 a c f};have:=(hold a c g f).1;have I:w.heap.size<=g:=q;omega};rcases bn.mp c with c|c;{exact aci (S.ok a (eF _ c)) u};exact Dy (e.ok a c) λg i=>S.fr.block g ⟨by have:=hold a c g i;omega,(hold a c g i).1⟩
theorem Pr.new(S:Pr o w p d m L)(cs:Array υ)(t:TypeId):Pr o (w.alloc (ξ cs t)) p d m (.inl (w.heap.size,cs,t)::L):=by obtain⟨x,l,j,s,k⟩:=S.ex;have i:=S.alloc (ξ cs t);refine⟨⟨x,l,j.below ((ah _ _).alloc (ae _) _),s,λg f=>⟨(k g f).1,λa c e=>?_⟩⟩,i.fr,λa c=>?_,bj.mpr ⟨λa c g e r=>?_,S.ap⟩,S.lo,S.ops⟩;{rcases bq.mp c with rfl|c;{cases e;have:=(j.own.lt _ f).2;omega};exact(k g f).2 a c e};{rcases bq.mp c with rfl|c;{exact⟨ak w _,S.fr.size⟩};exact i.ok a c};cases e;have:=(BU (S.ok a c) r).1;omega
theorem Pr.turn{i:It}(S:Pr o w p d m (a::L))(u:IB o.1.heap.size w i)(s:∀g,itB i=σ g->itB a=σ g):Pr o w p d m (i::L):=by obtain⟨x,l,q,y,k⟩:=S.ex;have r:=bj.mp S.ap;refine⟨⟨x,l,q,y,λg j=>⟨(k g j).1,λe c f=>?_⟩⟩,S.fr,λe c=>?_,bj.mpr ⟨λe c g f=>r.1 e c g (s g f),r.2⟩,S.lo,S.ops⟩;{rcases bq.mp c with rfl|c;{exact(k g j).2 _ (.head _) (s g f)};exact(k g j).2 e (.tail _ c) f};rcases bq.mp c with rfl|c;{exact u};exact S.ok e (.tail _ c)
theorem Pr.drop(S:Pr o w p d m (a::L)):Pr o w p d m L:=by obtain⟨x,l,q,j,i⟩:=S.ex;exact⟨⟨x,l,q,j,λg f=>⟨(i g f).1,λc e=>(i g f).2 c (.tail _ e)⟩⟩,S.fr,λc e=>S.ok c (.tail _ e),(bj.mp S.ap).2,S.lo,S.ops⟩
theorem Pr.perm{i:List It}(S:Pr o w p d m L)(e:L.Perm i):Pr o w p d m i:=by obtain⟨x,l,q,u,k⟩:=S.ex;exact⟨⟨x,l,q,u,λg j=>⟨(k g j).1,λc f=>(k g j).2 c (e.mem_iff.mpr f)⟩⟩,S.fr,λc f=>S.ok c (e.mem_iff.mpr f),(e.pairwise_iff (λy g r s=>y g s r)).mp S.ap,S.lo,S.ops⟩
theorem Pr.nil(S:Pr o w p d m L)(t:TypeId)(z:Nat):Pr o w p d m (.inr (ψ ν 0 0,t,z,0,[])::L):=by obtain⟨x,l,q,k,j⟩:=S.ex;refine⟨⟨x,l,q,k,λg i=>⟨(j g i).1,λe c f=>?_⟩⟩,S.fr,λe c=>?_,bj.mpr ⟨λe c g f=>(by cases f),S.ap⟩,S.lo,S.ops⟩;{rcases bq.mp c with rfl|c;{cases f};exact(j g i).2 e c f};rcases bq.mp c with rfl|c;{exact iJ _ _ _ _};exact S.ok e c
theorem Pr.box(S:Pr o w p d m (.inl (b,cs,t)::L)):w.heap[b]?=σ (ξ cs t (0,0)):=(S.ok _ (.head _)).1
theorem Pr.fz(S:Pr o w p d m (.inl (b,cs,t)::L))(c:Nat):w.frozen? (Ad b c)=false:=bY S.box c
theorem Pr.at(S:Pr o w p d m (.inl (b,cs,t)::L)):b<w.heap.size/\o.1.heap.size<=b:=BU (S.ok _ (.head _)) rfl
theorem Pr.row(S:Pr o w p d m (.inr (v,t,z,n,xs)::L)):w.ownsRow o.1.heap.size t z v n xs:=S.ok _ (.head _)
theorem Pr.one(S:Pr o w p d m (.inl (b,cs,t)::L))(f:cs.size=z):Pr o w p d m (.inr (ψ (σ (Ad b 0)) 1 1,t,z,1,cs.toList)::L):=by have c:=S.ok _ (.head _);exact S.turn (show w.ownsRow o.1.heap.size t z (ψ (σ (Ad b 0)) 1 1) 1 cs.toList from⟨by simpa using f,.inr ⟨b,1,cs,rfl,c.2,c.1,by omega,by decide,by omega,by rw[aL (by simp;omega)]⟩⟩) (λg e=>e)
theorem Pr.put(S:Pr o w p d m (.inl (b,cs,t)::L))(i:Nat)(u:υ):Pr o (w.setCell (Ad b i) u) p d m (.inl (b,cs.setIfInBounds i u,t)::L):=by
 obtain⟨x,l,y,A,k⟩:=S.ex;have D:=S.at;have E:=S.lo.2;have r:=bj.mp S.ap;have C:∀e∈L,IB o.1.heap.size (w.setCell (Ad b i) u) e:=λe c=>Dy (S.ok e (.tail _ c)) λg j=>az _ _ _ _ (λf=>r.1 e c b rfl ((show g=b from f) ▸ j));have s:Pr o (w.setCell (Ad b i) u) p d m (.inl (b,cs.setIfInBounds i u,t)::L):=
  ⟨⟨x,l,y.other (by omega) (λf=>(k b f).2 _ (.head _) rfl) i u,A,λg j=>⟨(k g j).1,λe c f=>by
   rcases bq.mp c with rfl|c
   . exact(k g j).2 _ (.head _) f
   . exact(k g j).2 e (.tail _ c) f⟩⟩,S.fr.setCell (p:=(Ad b i)) (λB=>by have:b<o.1.heap.size:=B.2;omega) u,λe c=>by
   rcases bq.mp c with rfl|c
   . exact⟨aQ w b i _ _ u S.box,D.2⟩
   . exact C e c,bj.mpr r,S.lo,S.ops⟩
 exact s
theorem nu.grown{row:Option Nat}(c:nu w p x m l)(e:w.grownBy w' row)(f:∀g,row=σ g->g≠p/\x.v.ownBlock≠σ g):nu w' p x m l:=
 ⟨(e.block p c.xC.lt (λi=>(f p i.symm).1 rfl)).trans c.xC,c.own.kept e (by
   cases row with
   |none=>cases hb:x.v.ownBlock<;>simp
   |some g=>exact .inr (f g rfl).2),c.apart,c.mode,c.few,c.wf,c.fin⟩
theorem Pr.app{q:Nat}(S:Pr o w p d m (.inr (v,t,z,n,xs)::L))(E:w'.ownsRow o.1.heap.size t z (ψ (σ (Ad g 0)) q cap) q ys)(y:w.grownBy w' v.ownBlock)(k:v.ownBlock=σ g\/w.heap.size<=g) :
 Pr o w' p d m (.inr (ψ (σ (Ad g 0)) q cap,t,z,q,ys)::L):=by
 obtain⟨x,l,A,D,s⟩:=S.ex;have H:=S.lo.2;have u:=bj.mp S.ap;have B:∀c,v.ownBlock=σ c->o.1.heap.size<=c:=λc e=>(BU (S.ok _ (.head _)) e).2;have G:=S.fr.size;refine⟨⟨x,l,A.grown y (λc e=>⟨by have:=B c e;omega,λr=>(s c r).2 _ (.head _) e⟩),D,λc i=>⟨(s c i).1,λj f e=>?_⟩⟩,S.fr.grown y (λc i=>ai i.2 G) (λc e i=>by have:=B c e;have:=i.2;omega),λj f=>?_,bj.mpr ⟨λj f c e r=>?_,u.2⟩,S.lo,S.ops⟩
 .rcases bq.mp f with rfl|f
  .have r:g=c:=bk e;subst r;rcases k with k|k
   {exact(s _ i).2 _ (.head _) k};have:=(A.own.lt _ i).2;omega
  exact(s c i).2 j (.tail _ f) e
 {rcases bq.mp f with rfl|f;{exact E};exact Dy (S.ok j (.tail _ f)) λc i=>y.block c (BU (S.ok j (.tail _ f)) i).1 (λe=>u.1 j f c e.symm i)}
 have C:g=c:=bk e;subst C;rcases k with k|k
 {exact u.1 j f _ k r};have:=(BU (S.ok j (.tail _ f)) r).1;omega
end
theorem Hl{L:List ByteArray}{t:ByteArray}(e:t∈L):L[xN L t]?=σ t:=by have c:L.findIdx (jN t)<L.length:=List.findIdx_lt_length_of_exists ⟨t,e,kA.mpr rfl⟩;have:=tg (w:=c);rw[kA]at this;unfold xN;rw[af c,<- this]
theorem K6:∀t∈cK,∀c∈gd,jN t c=false:=by decide
theorem K7:∀t∈gd,∀c∈cK,jN t c=false:=by decide
theorem nu.goes{w:ω}{p:Nat}{x:qz}{m:Mode}{l:List Tok}(e:nu w p x m l)(i:m.is s=true):m.alive/\m.next.len+1=m.len:=by cases m with|dead c b=>simp[Mode.is,Mode.tk]at i|live t u=>refine⟨trivial,?_⟩;cases u with|cons y A=>rfl|nil=>exfalso;have j:=e.mode.2;have r:l.getLast?=σ t:=(by have c:=iO x.pos l;rw[j]at c;rw[<- c,List.getLast?_append];rfl);have k:=e.fin t r;have f:=Hh i;rw[k]at f;cases f
theorem lu{m:Mode}(hw:m.tk.wf){i:Nat}(c:gd[i]?=σ s)(j:xN gd s=i):m.is s=decide (aV m.tk=5+i):=by have r:i<16:=(aj.mp c).1;have k:s∈gd:=aA c;unfold Mode.is;cases hk:m.tk with|stop=>(exact(show false=decide (0=5+i)from(aN (by omega)).symm))|bad=>(exact(show false=decide (1=5+i)from(aN (by omega)).symm))|name t=>(exact(show false=decide (2=5+i)from(aN (by omega)).symm))|num t=>(exact(show false=decide (3=5+i)from(aN (by omega)).symm))|str t=>(exact(show false=decide (4=5+i)from(aN (by omega)).symm))|sign t=>(rw[hk]at hw;have e:t∈gd:=hw;rw[ld,kA,dE];simp only[aV];constructor;{rintro rfl;rw[j]};intro u;have f:=Hl e;rw[show xN gd t=i from by omega,c]at f;exact(bk f).symm)|word t=>rw[hk]at hw;have e:t∈cK:=hw;show jN t s=decide (21+xN cK t=5+i);rw[K6 t e s k];exact(aN (by omega)).symm
theorem fG{m:Mode}(hw:m.tk.wf){i:Nat}(f:cK[i]?=σ s)(j:xN cK s=i):m.is s=decide (aV m.tk=21+i):=by have k:s∈cK:=aA f;unfold Mode.is;cases hk:m.tk with|stop=>(exact(show false=decide (0=21+i)from(aN (by omega)).symm))|bad=>(exact(show false=decide (1=21+i)from(aN (by omega)).symm))|name t=>(exact(show false=decide (2=21+i)from(aN (by omega)).symm))|num t=>(exact(show false=decide (3=21+i)from(aN (by omega)).symm))|str t=>(exact(show false=decide (4=21+i)from(aN (by omega)).symm))|sign t=>(rw[hk]at hw;have c:t∈gd:=hw;have e:xN gd t<16:=(aj.mp (Hl c)).1;show jN t s=decide (5+xN gd t=21+i);rw[K7 t c s k];exact(aN (by omega)).symm)|word t=>rw[hk]at hw;have c:t∈cK:=hw;rw[ld,kA,dE];simp only[aV];constructor;{rintro rfl;rw[j]};intro r;have e:=Hl c;rw[show xN cK t=i from by omega,f]at e;exact(bk e).symm
theorem om(m:Mode):(if aV m.tk=2 then m.next else m.wrong 2)=m.name.2/\(m.name.2.alive->(dc m.tk,m.place)=m.name.1):=by unfold Mode.name;cases hk:m.tk with|name t=>exact⟨rfl,λ_=>rfl⟩|stop=>(exact⟨rfl,λc=>absurd c (by cases m<;>exactλc=>c)⟩)|bad=>(exact⟨rfl,λc=>absurd c (by cases m<;>exactλc=>c)⟩)|num t=>(exact⟨rfl,λc=>absurd c (by cases m<;>exactλc=>c)⟩)|str t=>(exact⟨rfl,λc=>absurd c (by cases m<;>exactλc=>c)⟩)|sign t=>(exact⟨aE (by simp only[aV];omega),λc=>absurd c (by cases m<;>exactλc=>c)⟩)|word t=>exact⟨aE (by simp only[aV];omega),λc=>absurd c (by cases m<;>exactλc=>c)⟩
def oQ(w:ω)(g:Nat)(ks:List Nat):Prop:=∀j (h:j<ks.length),w.cell? ⟨g,j,ν⟩=σ (ι κ (ks[j]:Nat))
theorem T5(e:List Nat)(g cap i:Nat)(w:ω)(D:oQ w g e)(K:e.length<=100):Calls prog 144 #[ψ (σ ⟨g,0,ν⟩) e.length cap,ι κ i] w λG w'=>
 ∃n:Int,G=τ (ι κ n)/\(0<=n↔i∈e)/\δ w.heap.size w w':=by
 have y:=au D;go_in;go_wp2;go_loopw[8] (λv wr=>∃c:Nat,c<=e.length/\v=ι κ c/\(∃d,wr=w.drewN d)/\Hid (∀f (j:f<e.length),f<c->e[f]≠i)) (λv _=>e.length - (intOf v).toNat);case atStart=>exact⟨0,aI _,rfl,⟨0,rfl⟩,au (λf _ j=>by omega)⟩
 case round=>obtain⟨c,I,rfl,⟨d,rfl⟩,s⟩:=hrel;by_cases u:c<e.length;{have E:(c:Int)<e.length:=(by omega);have H:w.cell? ⟨g,c,ν⟩=σ (ι κ (e[c]:Nat)):=y.J c u;by_cases k:e[c]=i;{have A:((i:Int)==(e[c]:Nat))=true:=(by rw[dO,k]);go_wp2;go_ret;exact⟨c,rfl,⟨λ_=>k ▸ cF u,λ_=>by omega⟩,Below.drewN (ah _ _) d⟩};have A:((i:Int)==(e[c]:Nat))=false:=(by rw[aK];omega);go_wp2_with fail;refine⟨⟨c+1,by omega,by go_num,⟨d,rfl⟩,au (λf r j=>?_)⟩,by simp[intOf];omega⟩;by_cases B:f=c;{subst B;exact k};exact s.J f r (by omega)};have E:¬(c:Int)<e.length:=(by omega);go_wp2;go_ret;refine⟨-1,rfl,⟨λj=>by omega,λj=>?_⟩,Below.drewN (ah _ _) d⟩;have⟨f,r,C⟩:=List.getElem_of_mem j;exact absurd C (s.J f r (by omega))
theorem acj(c:List Nat)(g cap e:Nat)(w:ω)(i:oQ w g c)(y:c.length<=100):Calls prog 115 #[ψ (σ ⟨g,0,ν⟩) c.length cap,ι κ e] w λk w'=>
 k=τ (.bool (decide (e∈c)))/\δ w.heap.size w w':=by have s:=au (T5 c g cap e w i y);clear i;go_in;go_wp2_with fail;refine s.J.mono ?_;rintro k A ⟨n,rfl,j,f⟩;have r:=au f;have u:=au j;clear f j;go_wp2;go_ret;refine⟨?_,r.J⟩;show Ending.returned (Value.bool (decide (0<=n)))=_;congr 2;exact decide_eq_decide.mpr u.J
theorem T6(a b:Int)(c:ByteArray)(d:Int)(w:ω):(Instr.field 106 (χ #[ι κ a,ι κ b,θ c,ι κ d]) 0).run prog w=.ok (ι κ a) w:=by kernel_rfl
theorem oQ.below{w w':ω}{g:Nat}(f:oQ w g e)(j:δ i w w')(k:g<i):oQ w' g e:=λc r=>(j.cell (p:=⟨g,c,ν⟩) k).trans (f c r)
theorem YP{w:ω}{p:Nat}{x:qz}{m:Mode}{l:List Tok}(u:nu w p x m l)(c:List Nat)(g cap:Nat)(A:oQ w g c)(B:c.length<=100)(y:g<w.heap.size):Calls prog 85 #[π (σ ⟨p,0,ν⟩),ψ (σ ⟨g,0,ν⟩) c.length cap] w λe w'=>
 e=τ (.bool (decide (aV m.tk∈c)))/\δ w.heap.size w w':=by have j:=au u;have r:=au A;go_in;go_wp2_with fail;refine(NK j.J).mono ?_;rintro e E ⟨rfl,f⟩;have D:=r.J.below f y;have k:=au (acj c g cap (aV m.tk) E D B);have i:=au f;have G:∀w,(Instr.field 106 (χ #[ι κ (aV m.tk),ι κ m.place,θ (dc m.tk),ι κ (gP m.tk)]) 0).run prog w=.ok (ι κ (aV m.tk)) w:=λw=>T6 _ _ _ _ w;unfold Ir;go_wp2_with fail;refine k.J.mono ?_;rintro e H ⟨rfl,s⟩;have C:=au (i.J.trans (s.mono i.J.size));go_wp2;go_ret;exact⟨rfl,C.J⟩
section
variable {o:ω×Option Nat} {w w':ω} {p d b:Nat} {m:Mode} {L:List It} {t:TypeId}
theorem fN{a:υ}(c:w.heap[b]?=σ (ξ #[a,r] t (0,0))):w.cell? (Ad b 0)=σ a/\w.cell? (Ad b 1)=σ r:=by simp[World.cell?,c]
theorem xR{a:υ}(c:w.heap[b]?=σ (ξ #[a,r,y] t (0,0))):w.cell? (Ad b 0)=σ a/\w.cell? (Ad b 1)=σ r/\w.cell? (Ad b 2)=σ y:=by simp[World.cell?,c]
theorem dB{a:υ}(c:w.heap[b]?=σ (ξ #[a,r,y,j] t (0,0))):w.cell? (Ad b 0)=σ a/\w.cell? (Ad b 1)=σ r/\w.cell? (Ad b 2)=σ y/\w.cell? (Ad b 3)=σ j:=by simp[World.cell?,c]
theorem qn{a c:υ}(e:w.heap[b]?=σ (ξ #[a,r,y,j,c] t (0,0))):w.cell? (Ad b 0)=σ a/\w.cell? (Ad b 1)=σ r/\w.cell? (Ad b 2)=σ y/\w.cell? (Ad b 3)=σ j/\w.cell? (Ad b 4)=σ c:=by simp[World.cell?,e]
theorem qo(m:Mode)(c:Nat):m.next.fail c m.place=m.wrong c:=by cases m with|dead c b=>rfl|live t e=>cases e<;>rfl
theorem wN(a b:Int)(e:ByteArray)(c:Int)(w:ω):(Instr.field 106 (χ #[ι κ a,ι κ b,θ e,ι κ c]) 0).run prog w=.ok (ι κ a) w/\(Instr.field 106 (χ #[ι κ a,ι κ b,θ e,ι κ c]) 1).run prog w=.ok (ι κ b) w/\(Instr.field 106 (χ #[ι κ a,ι κ b,θ e,ι κ c]) 3).run prog w=.ok (ι κ c) w:=⟨by kernel_rfl,by kernel_rfl,by kernel_rfl⟩
theorem Pr.next(S:Pr o w p d m L):Calls prog 45 #[π (σ (Ad p 0))] w λc w'=>
 c=τ (χ #[ι κ (aV m.tk),ι κ m.place,θ (dc m.tk),ι κ (gP m.tk)])/\Pr o w' p d m L:=by obtain⟨x,l,e,-⟩:=S.ex;refine(NK e).mono ?_;rintro c w' ⟨rfl,f⟩;exact⟨rfl,S.below f⟩
theorem Pr.take(S:Pr o w p d m L):Calls prog 59 #[π (σ (Ad p 0))] w λc w'=>
 c=τ (χ #[ι κ (aV m.tk),ι κ m.place,θ (dc m.tk),ι κ (gP m.tk)])/\Pr o w' p d m.next L:=by obtain⟨x,l,i,f⟩:=S.st;refine(agP i).mono ?_;rintro c w' ⟨rfl,e⟩;exact⟨rfl,f e⟩
theorem Pr.fail(S:Pr o w p d m L)(c b:Nat)(k:c≠0):Calls prog 66 #[π (σ (Ad p 0)),χ #[ι κ c,ι κ b]] w λe w'=>
 e=τ (.tuple #[])/\Pr o w' p d (m.fail c b) L:=by obtain⟨x,l,j,i⟩:=S.st;refine(agQ j c b k).mono ?_;rintro e w' ⟨rfl,f⟩;exact⟨rfl,i f⟩
theorem Pr.refuse(e:Pr o w p d m L)(a b:Nat)(j:ByteArray)(i:Nat):Calls prog 46 #[π (σ (Ad p 0)),χ #[ι κ a,ι κ b,θ j,ι κ i]] w λc w'=>
 c=τ (.tuple #[])/\Pr o w' p d (m.fail 2 b) L:=by obtain⟨q,S,fin⟩:=e.start;go_in;go_wp2_with fail;refine((S.alloc _).fail 2 b (by decide)).mono ?_;rintro c k ⟨rfl,f⟩;go_wp2_with fail;go_end0;exact⟨rfl,fin [] f⟩
theorem Pr.YQ{x:υ}(S:Pr o w p d m (.inl (b,#[x,r],t)::L))(a c:υ):Pr o ((w.setCell (Ad b 0) a).setCell (Ad b 1) c) p d m (.inl (b,#[a,c],t)::L):=(S.put 0 a).put 1 c
theorem Pr.au0{x z:υ}(S:Pr o w p d m (.inl (b,#[x,r,z],t)::L))(a c e:υ):Pr o (((w.setCell (Ad b 0) a).setCell (Ad b 1) c).setCell (Ad b 2) e) p d m (.inl (b,#[a,c,e],t)::L):=((S.put 0 a).put 1 c).put 2 e
theorem Pr.agS{x z:υ}(S:Pr o w p d m (.inl (b,#[x,r,z,y],t)::L))(a c e f:υ):Pr o ((((w.setCell (Ad b 0) a).setCell (Ad b 1) c).setCell (Ad b 2) e).setCell (Ad b 3) f) p d m (.inl (b,#[a,c,e,f],t)::L):=(((S.put 0 a).put 1 c).put 2 e).put 3 f
theorem Pr.must(s:Pr o w p d m L)(j:Nat)(i:Bool)(r:decide (aV m.tk=j)=i):Calls prog 64 #[π (σ (Ad p 0)),ι κ j] w λk w'=>
 k=τ (χ #[ι κ (aV m.tk),ι κ m.place,θ (dc m.tk),ι κ (gP m.tk)])/\Pr o w' p d (cond i m.next (m.wrong 2)) L:=by
 obtain⟨q,S,fin⟩:=s.start;have I:((aV m.tk:Int) != j)=!i:=by rw[<- r,bne];congr 1;rw[ld];simp;omega
 clear r;go_in;go_wp2_with fail;refine(S.new #[ι κ 0,ι κ 0,θ ⟨#[]⟩,ι κ 0] 106).take.mono ?_;rintro k Q ⟨rfl,c⟩;have u:=c.new #[ι κ (aV m.tk),ι κ m.place,θ (dc m.tk),ι κ (gP m.tk)] 106;have K:=c.at;cases i;(case' true=>obtain⟨y,A,B,C⟩:=dB c.box;have z:=c.fz;go_wp2_with fail;have e:=(c.agS (ι κ (aV m.tk)) (ι κ m.place) (θ (dc m.tk)) (ι κ (gP m.tk))).alloc (ξ #[ι κ (aV m.tk),ι κ m.place,θ (dc m.tk),ι κ (gP m.tk)] 106);generalize World.alloc (World.setCell _ _ _) _=WF at e ⊢);(case' false=>go_wp2_with fail;refine(u.refuse _ _ _ _).mono ?_;rintro k R ⟨rfl,f⟩;rw[qo]at f;obtain⟨M,N,O,P⟩:=dB f.box;obtain⟨y,A,B,C⟩:=dB f.drop.box;have z:=f.drop.fz;go_wp2_with fail;have e:=f.drop.agS (ι κ (aV m.tk)) (ι κ m.place) (θ (dc m.tk)) (ι κ (gP m.tk));generalize World.setCell _ _ _=WF at e ⊢);all_goals obtain⟨D,E,G,H⟩:=dB e.box;(try simp only[Exit.inBlock,Exit.then]);refine aD (v:=_) (by simp[results,results64,go_sem,D,E,G,H];try rfl) rfl ?_;exact⟨rfl,fin [] e⟩
theorem Pr.sign(c:Pr o w p d m L)(f:m.tk.wf->m.is s=decide (aV m.tk=i)):Calls prog 64 #[π (σ (Ad p 0)),ι κ i] w λj w'=>
 j=τ (χ #[ι κ (aV m.tk),ι κ m.place,θ (dc m.tk),ι κ (gP m.tk)])/\Pr o w' p d (m.take s) L:=by have e:m.take s=cond (decide (aV m.tk=i)) m.next (m.wrong 2):=(by unfold Mode.take;rw[f c.wf];cases decide (aV m.tk=i)<;>rfl);rw[e];exact c.must i _ rfl
theorem Pr.name(k:Pr o w p d m L):Calls prog 61 #[π (σ (Ad p 0))] w λj w'=>
 j=τ (χ #[θ (dc m.tk),ι κ m.place])/\Pr o w' p d m.name.2 L:=by obtain⟨q,S,fin⟩:=k.start;have i:cond (decide (aV m.tk=2)) m.next (m.wrong 2)=m.name.2:=(by rw[<- (om m).1];by_cases r:aV m.tk=2<;>simp[r]);have f:=(S.new #[θ ⟨#[]⟩,ι κ 0] 110).must 2 _ rfl;rw[i]at f;clear i;go_in;go_wp2_with fail;refine f.mono ?_;rintro j C ⟨rfl,c⟩;obtain⟨A,B⟩:=fN c.box;have z:=c.fz;have y:=c.at;go_wp2_with fail;have e:=(c.YQ (θ (dc m.tk)) (ι κ m.place)).alloc (ξ #[ι κ (aV m.tk),ι κ m.place,θ (dc m.tk),ι κ (gP m.tk)] 106);generalize World.alloc (World.setCell _ _ _) _=WF at e ⊢;obtain⟨s,u⟩:=fN e.box;(try simp only[Exit.inBlock,Exit.then]);refine aD (v:=_) (by simp[results,results61,go_sem,s,u];try rfl) rfl ?_;exact⟨rfl,fin [] e⟩
theorem T7(w:ω)(c:Nat):oQ (w.alloc (ξ #[ι κ c] 104)) w.heap.size [c]:=λj i=>by
 have e:j=0:=by simp at i;omega
 subst e;have f:=ak w (ξ #[ι κ c] 104);simp only[World.cell?,f];rfl
theorem Pr.T8(S:Pr o w p d m L)(c:List Nat)(g cap:Nat)(r:oQ w g c)(s:c.length<=100)(k:g<w.heap.size)(e:Bool)(i:decide (aV m.tk∈c)=e):Calls prog 85 #[π (σ (Ad p 0)),ψ (σ (Ad g 0)) c.length cap] w λf w'=>
 f=τ (.bool e)/\Pr o w' p d m L:=by obtain⟨x,l,q,-⟩:=S.ex;refine(YP q c g cap r s k).mono ?_;rintro f w' ⟨rfl,j⟩;rw[i];exact⟨rfl,S.below j⟩
theorem Pr.is1(S:Pr o w p d m L)(c:Nat)(e:Bool)(f:decide (aV m.tk=c)=e):Calls prog 85 #[π (σ (Ad p 0)),ψ (σ (Ad w.heap.size 0)) 1 1] (w.alloc (ξ #[ι κ c] 104)) λi w'=>
 i=τ (.bool e)/\Pr o w' p d m L:=(S.alloc _).T8 [c] w.heap.size 1 (T7 w c) (by simp) (by simp) e (by simpa using f)
theorem Pr.IC(j:Pr o w p d m L)(f:Nat)(c:Bool)(k:decide (aV m.tk=f)=c):Calls prog 88 #[π (σ (Ad p 0)),ι κ f] w λi w'=>
 i=τ (.bool c)/\Pr o w' p d (cond c m.next m) L:=by obtain⟨q,S,fin⟩:=j.start;go_in;go_wp2_with fail;refine(S.is1 f c k).mono ?_;rintro i r ⟨rfl,e⟩;cases c;(case' true=>go_wp2_with fail;refine e.take.mono ?_;rintro i s ⟨rfl,e⟩);all_goals go_wp2_with fail;go_ret;exact⟨rfl,fin [] e⟩
end
def apq(s:ByteArray):Nat:=if gd.any (jN s)then 5+xN gd s else 21+xN cK s
def gN(s:ByteArray):Nat:=opsL.getD (apq s) 0
def T9(k:Nat)(n:Int)(s:ByteArray):υ:=.iface 317 (χ #[ι κ k,.bool false,ι κ n,θ s])
def pz:Ex->υ
 |.num n=>T9 0 n ⟨#[]⟩
 |.str s=>T9 1 0 s
 |.bool b=>T9 2 (if b then 1 else 0) ⟨#[]⟩
 |.col s a=>.iface 110 (χ #[θ s,ι κ a])
 |.neg a x=>.iface 325 (χ #[ι κ 13,ι κ a,pz x])
 |.not a x=>.iface 325 (χ #[ι κ 14,ι κ a,pz x])
 |.j8 no _ x=>.iface 320 (χ #[pz x,.bool no])
 |.two op a x y=>.iface 329 (χ #[ι κ (gN op),ι κ a,pz x,pz y])
 |.junk=>T9 0 0 ⟨#[]⟩
theorem uj(c:Ex):∃t v,pz c=.iface t v:=by cases c<;>exact⟨_,_,rfl⟩
theorem oQ.keep{w w':ω}{p g:Nat}(f:oQ w g e)(u:aY (Other p w) w w')(r:g≠p)(k:g<w.heap.size):oQ w' g e:=λs j=>by
 have i:=u.block g ⟨r,k⟩;have c:=f s j;simp only[World.cell?]at c ⊢;rw[i];exact c
def iu(S:Mode->Ex×Mode):Prop:=∀m,(S m).2.len<=m.len
theorem qp{m:Mode}:m.alive↔1<=m.len:=by cases m with|live t f=>(exact⟨λ_=>by simp[Mode.len],λ_=>trivial⟩)|dead e b=>exact⟨λc=>absurd c (λc=>c),λc=>by simp[Mode.len]at c⟩
theorem iu.back{S:Mode->Ex×Mode}(c:iu S){m:Mode}(e:(S m).2.alive):m.alive:=qp.mpr (ag (qp.mp e) (c m))
theorem rT(m:Mode)(c:Nat):(m.wrong c).len<=m.len:=by rw[(pG (dz _ c)).1];exact aI _
theorem iu.chain{S:Mode->Ex×Mode}(e:iu S)(i:List ByteArray):∀n c m,(fL S i n c m).2.len<=m.len:=by intro n;induction n with|zero=>exactλc m=>ae _|succ n f=>intro c m;unfold fL;split;{exact ag (f _ _) (ag (e _) dD)};exact ae _
theorem iu.links{S:Mode->Ex×Mode}(c:iu S)(e:List ByteArray):iu (ll S e):=λm=>ag (c.chain e _ _ _) (c m)
def zG:Option rN->Prop
 |none=>True
 |some l=>iu l.expr/\iu l.Dl/\iu l.turn
theorem iu.atom{sub:Option rN}(c:zG sub):iu (ja sub):=λm=>by
 unfold ja;split
 . cases sub with
   |none=>exact rT m 3
   |some l=>exact ag (take_len _ _) (ag (c.1 _) dD)
 . split
   . exact dD
   . exact dD
   . exact dD
   . split
     . exact dD
     . split
       . exact dD
       . exact rT m 2
   . exact rT m 2
theorem iu.turn{sub:Option rN}(c:zG sub):iu (gL sub):=λm=>by
 unfold gL;split
 . cases sub with
   |none=>exact rT m 3
   |some l=>exact ag (c.2.2 _) dD
 . exact iu.atom c m
theorem iu.part{sub:Option rN}(c:zG sub):iu (BO sub):=(iu.turn c).links _
theorem iu.total{sub:Option rN}(c:zG sub):iu (gb sub):=(iu.part c).links _
theorem iu.test{sub:Option rN}(e:zG sub):iu (kP sub):=λm=>by
 have c:=iu.total e;unfold kP;simp only;split
 . exact ag (c _) (ag dD (c m))
 . split
   . refine ag (take_len _ _) (ag ?_ (c m))
     split
     . exact ag dD dD
     . exact dD
   . exact c m
theorem iu.Dl{sub:Option rN}(c:zG sub):iu (gj sub):=λm=>by
 unfold gj;split
 . cases sub with
   |none=>exact rT m 3
   |some l=>exact ag (c.2.1 _) dD
 . exact iu.test c m
theorem iu.both{sub:Option rN}(c:zG sub):iu (yP sub):=(iu.Dl c).links _
theorem iu.expr{sub:Option rN}(c:zG sub):iu (fE sub):=(iu.both c).links _
theorem Cu:∀d,zG (lvl d)
 |0=>trivial
 |d+1=>⟨iu.expr (Cu d),iu.Dl (Cu d),iu.turn (Cu d)⟩
theorem Qc(m:Mode):(mO m).2.len<=m.len:=iu.expr (Cu 8) m
def IE(L:List (ByteArray×Nat)):Prop:=∀m:Mode,m.tk.wf->∀q∈L,m.is q.1=decide (aV m.tk=q.2)/\opsL[q.2]?=σ (gN q.1)
theorem IG{L:List (ByteArray×Nat)}(i:IE L){m:Mode}(hw:m.tk.wf) :
 (aV m.tk∈L.map (·.2)->∃o,(L.map (·.1)).find? (λo=>m.is o)=σ o/\opsL[aV m.tk]?=σ (gN o)/\m.is o=true)/\(¬aV m.tk∈L.map (·.2)->(L.map (·.1)).find? (λo=>m.is o)=ν):=by induction L with|nil=>(exact⟨λi=>by simp at i,λ_=>rfl⟩)|cons q L s=>have f:=i m hw q (by simp);have r:=s (λm e q f=>i m e q (cz _ f));simp only[List.map_cons,List.mem_cons,List.find?_cons];by_cases c:aV m.tk=q.2;{have j:m.is q.1=true:=(by rw[f.1];simpa using c);refine⟨λ_=>⟨q.1,by rw[j],by rw[c];exact f.2,j⟩,λk=>absurd (Or.inl c) k⟩};have j:m.is q.1=false:=(by rw[f.1];simpa using c);rw[j];refine⟨λe=>r.1 (e.resolve_left c),λk=>r.2 (λe=>k (.inr e))⟩
theorem II{m:Mode}(c:m.next.alive):m.alive:=by cases m with|live t f=>trivial|dead e b=>exact c
def Each{α β:Type}(P:α->β->Prop):List α->List β->Prop
 |[],[]=>True
 |a::u,b::v=>P a b/\Each P u v
 |_,_=>False
theorem Each.mono{j r:Type}{f i:j->r->Prop}:∀{e:List j} {v:List r},Each f e v->(∀a∈e,∀b,f a b->i a b)->Each i e v
 |[],[],_,_=>trivial
 |_::_,_::_,c,k=>⟨k _ (by simp) _ c.1,Each.mono c.2 (λa s b=>k a (cz _ s) b)⟩
 |[],_::_,c,_=>absurd c (λc=>c)
 |_::_,[],c,_=>absurd c (λc=>c)
theorem Each.snoc{f i:Type}{e:f->i->Prop}{a:f}{b:i}:∀{j:List f} {v:List i},Each e j v->e a b->Each e (j++[a]) (v++[b])
 |[],[],_,FN=>⟨FN,trivial⟩
 |_::_,_::_,c,FN=>⟨c.1,Each.snoc c.2 FN⟩
 |[],_::_,c,_=>absurd c (λc=>c)
 |_::_,[],c,_=>absurd c (λc=>c)
theorem Each.len{f i:Type}{j:f->i->Prop}:∀{e:List f} {v:List i},Each j e v->e.length=v.length
 |[],[],_=>rfl
 |_::_,_::_,c=>by simp[Each.len c.2]
 |[],_::_,c=>absurd c (λc=>c)
 |_::_,[],c=>absurd c (λc=>c)
def YR(a:Nat×υ):List υ:=[ι κ a.1,a.2]
def uH(l:List (Nat×υ)):List υ:=l.flatMap YR
theorem IJ(l:List (Nat×υ))(a:Nat×υ):uH (l++[a])=uH l++YR a:=by simp[uH]
theorem ER{m:Mode}(c:(mO m).2.alive):m.alive:=iu.back (iu.expr (Cu 8)) c
def Ua(v:υ):Prop:=v=.nilIface\/∃t u,v=.iface t u
theorem YS{e:Type}(one:Mode->e×Mode)(n:Nat)(l:List e)(c b:Nat):jb one n l (.dead c b)=(l,.dead c b):=by cases n<;>rfl
theorem YT{e:Type}{one:Mode->e×Mode}{m:Mode}{b:Nat}(c:(one m).2=.dead i b):(dk one m).2=.dead i b:=by unfold dk;rw[c,YS]
theorem xS(m:Mode)(c:Nat):∃a b,m.wrong c=.dead a b:=by cases m with|live t e=>exact⟨c,t.pl,rfl⟩|dead a b=>exact⟨a,b,rfl⟩
theorem back{m m':Mode}(c:m'.len<=m.len)(e:m'.alive):m.alive:=qp.mpr (ag (qp.mp e) c)
theorem jJ{m:Mode}(c:(m.take s).alive):m.alive:=back (take_len m s) c
theorem Ma{f:Type}{one:Mode->f×Mode}(c:∀m,(one m).2.len<=m.len){m:Mode}(e:(dk one m).2.alive):m.alive:=back (oP c m) e
def koF:Ex->Nat
 |.col _ _=>272
 |.neg _ _=>322
 |.not _ _=>322
 |.j8 _ _ _=>321
 |.two _ _ _ _=>323
 |_=>320
def rz(e:Ex):υ:=match pz e with
 |.iface _ v=>v
 |v=>v
def ES(r:Ending):Nat ⊕ (Nat×Nat)->Prop
 |.inl k=>r=τ (.tuple #[ι κ (k:Nat),χ #[ι κ 0,ι κ 0]])
 |.inr q=>∃k:Nat,r=τ (.tuple #[ι κ k,χ #[ι κ q.1,ι κ q.2]])
theorem pT(c:Ex):∃f,pz c=.iface f (rz c)/\(∀w,Sem.run prog (method 566 f (rz c) "quarry/quarry.kindOver") w=.ok (koF c,rz c) w)/\(∀(e:Array υ) (w:ω),Sem.run prog (callFunc (koF c) e) w=.ok (.enter (koF c) e) w):=by cases c with|num n=>(exact⟨_,rfl,λw=>by kernel_rfl,call320⟩)|str n=>(exact⟨_,rfl,λw=>by kernel_rfl,call320⟩)|bool n=>(exact⟨_,rfl,λw=>by kernel_rfl,call320⟩)|junk=>(exact⟨_,rfl,λw=>by kernel_rfl,call320⟩)|col k a=>(exact⟨_,rfl,λw=>by kernel_rfl,call272⟩)|neg a x=>(exact⟨_,rfl,λw=>by kernel_rfl,call322⟩)|not a x=>(exact⟨_,rfl,λw=>by kernel_rfl,call322⟩)|j8 i a x=>(exact⟨_,rfl,λw=>by kernel_rfl,call321⟩)|two j a x r=>exact⟨_,rfl,λw=>by kernel_rfl,call323⟩
def GF(cols:List bu)(cv:υ)(e:Ex):Prop:=∀w,eT w cv cols->Calls prog (koF e) #[rz e,cv] w λr w'=>ES r (cL cols e)/\δ w.heap.size w w'
theorem apt{a b a' b':υ}{t:TypeId}(c:k.heap[i]?=σ (ξ #[a,b] t (0,0)))(o:Obj):(((k.setCell ⟨i,0,ν⟩ a').setCell ⟨i,1,ν⟩ b').alloc o).cell? ⟨i,0,ν⟩=σ a'/\(((k.setCell ⟨i,0,ν⟩ a').setCell ⟨i,1,ν⟩ b').alloc o).cell? ⟨i,1,ν⟩=σ b':=by refine aS (t:=t) ((cw _ _ _ ?_).trans (aQ _ _ 1 _ _ _ (aQ _ _ 0 _ _ _ c)));simpa[World.setCell]using ay c
section
variable {cols:List bu} {cv:υ}
theorem agV{e:Bool}{a:Nat}{x:Ex}(T:GF cols cv x):GF cols cv (.j8 e a x):=by
 intro w A;obtain⟨k,Y,hm,Z⟩:=pT x;obtain⟨s,j⟩:=nm ((w.alloc (obW (.iface k (rz x)) e)).alloc (iQ 0 0));have y:=xI j;have E:s.heap[w.heap.size+1]?=σ (iQ 0 0):=by rw[j];have:=ak (w.alloc (obW (.iface k (rz x)) e)) (iQ 0 0);simpa using this
 have O:s.heap[w.heap.size]?=σ (obW (.iface k (rz x)) e):=by rw[j];exact(cw _ _ _ (by simp)).trans (ak w (obW (.iface k (rz x)) e))
 have I:=T s (A.below y (ae _));have C:=y;have D:=au E;have K:=au j;obtain⟨va,dG,Q⟩:=A.slice;subst Q;show Calls prog 321 #[χ #[pz x,.bool e],_] w _;rw[Y];clear A y E j O;go_in;go_wp2_with fail;rw[<- K.J];refine I.mono ?_;rintro U X ⟨c,u⟩;have f:=(u.block _ (ay D.J)).trans D.J;have R:=C.trans (u.mono C.size);have M:=ay f;obtain⟨i,b,H,G,P⟩:∃(i b H:Nat),ES (τ (.tuple #[ι κ 2,χ #[ι κ i,ι κ b]])) (cL cols (.j8 e a x))/\U=τ (.tuple #[ι κ H,χ #[ι κ i,ι κ b]]):=(by cases hk:cL cols x with|inl B=>(rw[hk]at c;exact⟨0,0,B,by simp only[cL,hk];rfl,c⟩)|inr q=>rw[hk]at c;obtain⟨B,c⟩:=c;exact⟨q.1,q.2,B,by simp only[cL,hk];exact⟨2,rfl⟩,c⟩);subst P;have N:=G;have r:=(cw X (iQ i b) _ M).trans f;obtain⟨q0,q1⟩:=aS r;have z0:=bY r 0;have z1:=bY r 1;obtain⟨p0,p1⟩:=aS f;obtain⟨V,W⟩:=apt (a':=ι κ (i:Nat)) (b':=ι κ (b:Nat)) f (iQ i b);have y0:=bY f 0;have y1:=bY f 1;clear u c G f r;go_wp2_with fail;go_region;all_goals (try go_wp2_with fail);(try simp only[Exit.inBlock,Exit.then]);refine aD (by simp[results,results321,go_sem,V,W];rfl) rfl ?_;exact⟨N,by repeat(first|exact R|refine aH ?_|refine below_drewN ?_ _|refine fR ?_ (by simp) _|refine iK ?_ (by simp;omega) _)⟩
end
theorem Ub{cols:List bu}{s:ByteArray}:(∀e,Nz cols s=σ e->∃c,cols[e]?=σ c/\cols.find? (λc=>jN c.1 s)=σ c)/\(Nz cols s=ν->cols.find? (λc=>jN c.1 s)=ν):=by unfold Nz;constructor;{intro e j;rw[jx]at j;obtain⟨f,k,r⟩:=j;refine⟨cols[e],af f,?_⟩;rw[List.find?_eq_some_iff_getElem];exact⟨k,e,f,rfl,λA y=>by simpa using r A y⟩};intro i;rw[List.findIdx?_eq_none_iff]at i;rw[gW];intro c u;simp[i c u]
theorem NQ(c:Nat)(n:Int)(f:ByteArray)(cv:υ)(w:ω):Calls prog 320 #[χ #[ι κ c,.bool false,ι κ n,θ f],cv] w λe w'=>e=τ (.tuple #[ι κ c,χ #[ι κ 0,ι κ 0]])/\δ w.heap.size w w':=by go_in;go_wp2;(try simp only[Exit.inBlock,Exit.then]);refine aD (by simp[results,results320,go_sem];rfl) rfl ?_;exact⟨rfl,((ah _ _).alloc (ae _) _).alloc (by simp) _⟩
theorem alq(cols:List bu)(cv:υ)(V:cols.length<=100000)(c:ByteArray)(a:Nat):GF cols cv (.col c a):=by
 intro w s;have⟨k,f⟩:=nm ((w.alloc (obU c a)).alloc (iQ 0 0));have r:=xI f;have R:k.heap[w.heap.size+1]?=σ (iQ 0 0):=by rw[f];have:=ak (w.alloc (obU c a)) (iQ 0 0);simpa using this
 have T:k.heap[w.heap.size]?=σ (obU c a):=by rw[f];exact(cw _ _ _ (by simp)).trans (ak w (obU c a))
 have M:=Dp cols cv c k (s.below r (ae _)) V;have K:=s.below r (ae _);have A:=r;have B:=au R;have C:=au T;have N:=au f;have⟨va,dG,W⟩:=s.slice;subst W;show Calls prog 272 #[χ #[θ c,ι κ a],_] w _;go_in;go_wp2_with fail;rw[<- N.J];refine M.mono ?_;rintro aa w1 ⟨rfl,e⟩;have i:=(e.block _ (ay B.J)).trans B.J;have O:=(e.block _ (ay C.J)).trans C.J;have E:=A.trans (e.mono A.size);have⟨H,I⟩:=aS i;have y0:=bY i 0;have y1:=bY i 1;have⟨s0,s1⟩:=aS O;have X:=au i;have D:=Ub (cols:=cols) (s:=c);cases KP:Nz cols c with|none=>(have u:zl cols c=-1:=(by unfold zl;rw[KP]);have j:=(show ES (τ (.tuple #[ι κ (0:Nat),χ #[ι κ (5:Nat),ι κ a]])) (cL cols (.col c a))from by simp only[cL,D.2 KP];exact⟨0,rfl⟩);rw[u];go_wp2_with fail;go_region;all_goals (try go_wp2_with fail);(try simp only[Exit.inBlock,Exit.then]);refine aD (by simp[results,results272,go_sem,H,I];rfl) rfl ?_;exact⟨j,by repeat(first|exact E|refine aH ?_|refine below_drewN ?_ _|refine fR ?_ (by simp) _|refine iK ?_ (by simp;omega) _)⟩)|some y=>have u:zl cols c=(y:Nat):=(by unfold zl;rw[KP]);have⟨Q,G,P⟩:=D.1 y KP;have Y:(y:Int)<cols.length:=(by have:=(aj.mp G).1;omega);have⟨cg,co,Z,U,d0,d1⟩:=(K.below e (ae _)).get G;cases U;have j:=(show ES (τ (.tuple #[ι κ Q.2,χ #[ι κ 0,ι κ 0]])) (cL cols (.col c a))from by simp only[cL,P];rfl);rw[u];go_wp2_with fail;(try go_region);all_goals (try go_wp2_with fail);(try simp only[Exit.inBlock,Exit.then]);refine aD (by simp[results,results272,go_sem,H,I];rfl) rfl ?_;exact⟨j,by repeat(first|exact E|refine aH ?_|refine below_drewN ?_ _|refine fR ?_ (by simp) _|refine iK ?_ (by simp;omega) _)⟩
theorem Qg(cols:List bu):∀(f:Ex) {q:Nat×Nat},cL cols f=.inr q->¬q.1=0/\(q.1=5\/q.1=7):=by intro f;induction f with|num n=>(intro q c;cases c)|str n=>(intro q c;cases c)|bool n=>(intro q c;cases c)|junk=>(intro q c;cases c)|col s a=>(intro q c;simp only[cL]at c;split at c;{cases c};cases c;exact⟨by simp,.inl rfl⟩)|j8 r a x e=>(intro q c;simp only[cL]at c;split at c;{cases c;exact e (by assumption)};cases c)|neg a x e=>(intro q c;simp only[cL]at c;split at c;{cases c;exact e (by assumption)};split at c;{cases c};cases c;exact⟨by simp,.inr rfl⟩)|not a x e=>(intro q c;simp only[cL]at c;split at c;{cases c;exact e (by assumption)};split at c;{cases c};cases c;exact⟨by simp,.inr rfl⟩)|two k a x u i j=>intro q c;simp only[cL]at c;split at c;{cases c;exact i (by assumption)};split at c;{cases c;exact j (by assumption)};generalize (if pZ k=true then(0:Nat)else 2)=wt at c;split at c;{cases c;exact⟨by simp,.inr rfl⟩};cases c
theorem zH{cols:List bu}{x:Ex}{i:Ending}(c:ES i (cL cols x)):∃(e f b:Nat),i=τ (.tuple #[ι κ e,χ #[ι κ f,ι κ b]])/\((f=0/\b=0/\cL cols x=.inl e)\/(f≠0/\cL cols x=.inr (f,b))):=by cases hk:cL cols x with|inl e=>rw[hk]at c;exact⟨e,0,0,c,.inl ⟨rfl,rfl,rfl⟩⟩|inr q=>rw[hk]at c;obtain⟨e,c⟩:=c;exact⟨e,q.1,q.2,c,.inr ⟨(Qg cols x hk).1,rfl⟩⟩
theorem acp{cols:List bu}{cv:υ}{a O:Nat}{x:Ex}{j:Nat ⊕ (Nat×Nat)}(aa:(O=13/\i=0)\/(O=14/\i=2))(K:j=match cL cols x with|.inr c=>.inr c|.inl ab=>if ab=i then .inl i else .inr (7,a))(ih:GF cols cv x)(w:ω)(D:eT w cv cols):Calls prog 322 #[χ #[ι κ O,ι κ a,pz x],cv] w λN w'=>ES N j/\δ w.heap.size w w':=by
 obtain⟨E,zq,hm,Pv⟩:=pT x;obtain⟨I,r⟩:=nm ((w.alloc (obZ O a (.iface E (rz x)))).alloc (iQ 0 0));have e:=xI r;have Y:I.heap[w.heap.size+1]?=σ (iQ 0 0):=by rw[r];have:=ak (w.alloc (obZ O a (.iface E (rz x)))) (iQ 0 0);simpa using this
 have Z:I.heap[w.heap.size]?=σ (obZ O a (.iface E (rz x))):=by rw[r];exact(cw _ _ _ (by simp)).trans (ak w (obZ O a (.iface E (rz x))))
 have HI:=ih I (D.below e (ae _));have HC:=D.below e (ae _);have G:=e;have Q:=au Y;have R:=au Z;have HW:=au r;obtain⟨va,dG,hv⟩:=D.slice;subst hv;rcases aa with⟨X,W⟩|⟨X,W⟩
 all_goals
  (try have ac:((O:Int)==13)=true:=by rw[dO];omega);(try have ac:((O:Int)==13)=false:=by rw[aK];omega);(try have ad:((O:Int)==14)=true:=by rw[dO];omega);(try have ad:((O:Int)==14)=false:=by rw[aK];omega);clear X;clear D e Y r Z;rw[zq];go_in;go_wp2_with fail;rw[<- HW.J];refine HI.mono ?_;rintro N f ⟨hr,k⟩;obtain⟨y,c,b,rfl,lA⟩:=zH hr;have P:=(k.block _ (ay Q.J)).trans Q.J;have H:=(k.block _ (ay R.J)).trans R.J;have IK:=ay P;have C:δ f.heap.size f (f.alloc (iQ c b)):=(ah _ _).alloc (ae _) _;have U:=au ((C.block _ IK).trans P);have Qh:=au ((C.block _ (ay H)).trans H);have HF:=sq c b (f.alloc (iQ c b));have HG:=au (ak f (iQ c b));have jS:=(G.trans (k.mono G.size)).trans (C.mono (ag G.size k.size));have lk:w.heap.size+1<(f.alloc (iQ c b)).heap.size:=ay U.J;clear hr k P H C;go_wp2_with fail;refine HF.mono ?_;rintro N w3 ⟨rfl,u⟩;have B:=(u.block _ lk).trans U.J;have T:=(u.block _ (by omega)).trans Qh.J;have V:=(u.block _ (by simp)).trans HG.J;have iC:=jS.trans (u.mono jS.size);obtain⟨p0,p1⟩:=aS B;have y0:=bY B 0;have y1:=bY B 1;obtain⟨s0,s1,s2⟩:=lx T;obtain⟨g0,g1⟩:=aS V;clear u B T V;rcases lA with⟨M,e,s⟩|⟨M,s⟩
  (case' inr=>have A:=(show ES (τ (.tuple #[ι κ (0:Nat),χ #[ι κ c,ι κ b]])) j from by rw[K,s];exact⟨0,rfl⟩);rw[show decide (c≠0)=true by simpa using M]);(case' inl=>subst M;subst e;rw[show decide ((0:Nat)≠0)=false from rfl];by_cases hw:y=i;(case' pos=>have A:=(show ES (τ (.tuple #[ι κ (i:Nat),χ #[ι κ 0,ι κ 0]])) j from by rw[K,s];simp only[hw,if_true];rfl);rw[W]at A;(try have oB:((y:Int) != 0)=false:=by rw[mU];omega);(try have oB:((y:Int) != 2)=false:=by rw[mU];omega));(case' neg=>have A:=(show ES (τ (.tuple #[ι κ (0:Nat),χ #[ι κ (7:Nat),ι κ a]])) j from by rw[K,s];simp only[hw,if_false];exact⟨0,rfl⟩);(try have oB:((y:Int) != 0)=true:=by rw[jD];omega);(try have zn:((y:Int) != 2)=true:=by rw[jD];omega));all_goals clear hw);all_goals clear s;go_wp2_with fail;(try go_region);all_goals (try go_wp2_with fail);refine aD (by simp[results,results322,go_sem,p0,p1];rfl) rfl ?_;exact⟨A,by repeat(first|exact iC|refine aH ?_|refine below_drewN ?_ _|refine fR ?_ (by simp) _|refine iK ?_ (by simp;omega) _)⟩
theorem alr{cols:List bu}{cv:υ}{a:Nat}{x:Ex}(e:GF cols cv x):GF cols cv (.neg a x):=λw c=>acp (O:=13) (.inl ⟨rfl,rfl⟩) rfl e w c
theorem als{cols:List bu}{cv:υ}{a:Nat}{x:Ex}(e:GF cols cv x):GF cols cv (.not a x):=λw c=>acp (O:=14) (.inr ⟨rfl,rfl⟩) rfl e w c
def kdK(o:Nat):Nat:=if o<=4 then 0 else 2
def kdT(o l r:Nat):Bool:=if o<=4 then decide (l=0/\r=0)else if 11<=o then decide (l=2/\r=2)else decide (l=r)
theorem agX:∀c∈tu,pZ c=decide (gN c<=4)/\mh c=decide (5<=gN c/\gN c<=10)/\gN c<=12:=by decide
theorem acq(l c:Nat):((l:Int)==(c:Nat))=decide (l=c):=by by_cases e:l=c;{simp[e]};rw[aN e,aK];omega
theorem alw(o l c:Nat)(I:o<=12)(w:ω):Calls prog 324 #[ι κ o,ι κ l,ι κ c] w λs w'=>s=τ (.tuple #[ι κ (kdK o),.bool (kdT o l c)])/\δ w.heap.size w w':=by
 by_cases j:o<=4
 .have y:o=0\/o=1\/o=2\/o=3\/o=4:=by omega
  rw[show kdT o l c=decide (l=0/\c=0)from aF j,show kdK o=0 from aF j];rcases y with rfl|rfl|rfl|rfl|rfl<;>rcases o9 (l=0)with e|e<;>rcases o9 (c=0)with f|f<;>(
   have i:((l:Int)==(0:Nat))=decide (l=0):=acq _ _
   (first|rw[bU e]at i|rw[aN e]at i)
   have k:((c:Int)==(0:Nat))=decide (c=0):=acq _ _
   (first|rw[bU f]at k|rw[aN f]at k)
   go_in;go_wp2_with fail
   (try go_region)
   all_goals
    (try go_wp2_with fail)
    refine aD (v:=.tuple #[ι κ 0,.bool (decide (l=0/\c=0))]) (by simp[results,results324,go_sem,e,f];try first|omega|rfl) rfl ?_;exact⟨rfl,by repeat(first|exact ah _ _|refine aH ?_)⟩)
 by_cases r:11<=o
 .have u:o=11\/o=12:=by omega
  rw[show kdT o l c=decide (l=2/\c=2)from(aE j).trans (aF r),show kdK o=2 from aE j];rcases u with rfl|rfl<;>rcases o9 (l=2)with e|e<;>rcases o9 (c=2)with f|f<;>(
   have i:((l:Int)==(2:Nat))=decide (l=2):=acq _ _
   (first|rw[bU e]at i|rw[aN e]at i)
   have k:((c:Int)==(2:Nat))=decide (c=2):=acq _ _
   (first|rw[bU f]at k|rw[aN f]at k)
   go_in;go_wp2_with fail
   (try go_region)
   all_goals
    (try go_wp2_with fail)
    refine aD (v:=.tuple #[ι κ 2,.bool (decide (l=2/\c=2))]) (by simp[results,results324,go_sem,e,f];try first|omega|rfl) rfl ?_;exact⟨rfl,by repeat(first|exact ah _ _|refine aH ?_)⟩)
 skip;have A:((o:Int)==0)=false:=by rw[aK];omega
 have B:((o:Int)==1)=false:=by rw[aK];omega
 have E:((o:Int)==2)=false:=by rw[aK];omega
 have G:((o:Int)==3)=false:=by rw[aK];omega
 have H:((o:Int)==4)=false:=by rw[aK];omega
 have C:((o:Int)==11)=false:=by rw[aK];omega
 have D:((o:Int)==12)=false:=by rw[aK];omega
 rw[show kdT o l c=decide (l=c)from(aE j).trans (aE r),show kdK o=2 from aE j];rcases o9 (l=c)with e|e<;>(
  have i:((l:Int)==(c:Nat))=decide (l=c):=acq _ _
  (first|rw[bU e]at i|rw[aN e]at i)
  go_in;go_wp2_with fail
  (try go_region)
  all_goals
   (try go_wp2_with fail)
   refine aD (v:=.tuple #[ι κ 2,.bool (decide (l=c))]) (by simp[results,results324,go_sem,e];try first|omega|rfl) rfl ?_;exact⟨rfl,by repeat(first|exact ah _ _|refine aH ?_)⟩)
theorem alx{cols:List bu}{cv:υ}{a:Nat}{x c:Ex}(Cv:s∈tu)(Tl:GF cols cv x)(Uc:GF cols cv c):GF cols cv (.two s a x c):=by
 intro w hc;obtain⟨E,hx,EP,a9⟩:=pT x;obtain⟨G,hy,bb,ba⟩:=pT c;obtain⟨a4,a5,a8⟩:=agX s Cv;obtain⟨W,P⟩:=nm ((w.alloc (obT (gN s) a (.iface E (rz x)) (.iface G (rz c)))).alloc (iQ 0 0));have j:=xI P;have hR:W.heap[w.heap.size+1]?=σ (iQ 0 0):=by rw[P];have:=ak (w.alloc (obT (gN s) a (.iface E (rz x)) (.iface G (rz c)))) (iQ 0 0);simpa using this
 have hS:W.heap[w.heap.size]?=σ (obT (gN s) a (.iface E (rz x)) (.iface G (rz c))):=by rw[P];exact(cw _ _ _ (by simp)).trans (ak w (obT (gN s) a (.iface E (rz x)) (.iface G (rz c))))
 have HI:=Tl W (hc.below j (ae _));have HC:=hc.below j (ae _);have R:=j;have HR:=au hR;have HS:=au hS;have HW:=au P;obtain⟨va,dG,hv⟩:=hc.slice;subst hv;show Calls prog 323 #[χ #[ι κ (gN s),ι κ a,pz x,pz c],_] w _;have HK:=au (λl r=>alw (gN s) l r a8);have aC:=au (λ(D C:Nat) (h1:cL cols x=.inl D) (h2:cL cols c=.inl C)=>(show cL cols (.two s a x c)=if kdT (gN s) D C then .inl (kdK (gN s))else .inr (7,a)from by
  simp only[cL,h1,h2,a4,a5];unfold kdT kdK;by_cases X:gN s<=4
  . simp only[X,decide_true,if_true]
    by_cases f:D=0<;>by_cases hj:C=0<;>simp[f,hj]<;>omega
  . by_cases aq:11<=gN s
    . have:¬(5<=gN s/\gN s<=10):=by omega
      simp only[X,aq,this,decide_false,if_true];by_cases f:D=2<;>by_cases hj:C=2<;>simp[f,hj]<;>omega
    . have:5<=gN s/\gN s<=10:=by omega
      simp only[X,aq,this,decide_false];by_cases f:D=C<;>simp[f]))
 rw[hx,hy];go_in;go_wp2_with fail;rw[<- HW.J];refine HI.mono ?_;rintro r i ⟨hr,A⟩;obtain⟨k1,e,b,rfl,lA⟩:=zH hr;have wq:=(A.block _ (ay HR.J)).trans HR.J;have IL:=(A.block _ (ay HS.J)).trans HS.J;have IK:=ay wq;have N:δ i.heap.size i (i.alloc (iQ e b)):=(ah _ _).alloc (ae _) _;have K8:=au ((N.block _ IK).trans wq);have Qh:=au ((N.block _ (ay IL)).trans IL);have HF:=sq e b (i.alloc (iQ e b));have HG:=au (ak i (iQ e b));have jS:=(R.trans (A.mono R.size)).trans (N.mono (ag R.size A.size));have xE:=(HC.below A (ae _)).below N (ae _);have lk:w.heap.size+1<(i.alloc (iQ e b)).heap.size:=ay K8.J;go_wp2_with fail;refine HF.mono ?_;rintro r w3 ⟨rfl,B⟩;have I:=(B.block _ lk).trans K8.J;have Hn:=(B.block _ (by omega)).trans Qh.J;have V:=(B.block _ (by simp)).trans HG.J;have iC:=jS.trans (B.mono jS.size);obtain⟨p0,p1⟩:=aS I;have y0:=bY I 0;have y1:=bY I 1;obtain⟨s0,s1,s2,s3⟩:=eQ Hn;obtain⟨g0,g1⟩:=aS V;have ab:=au I;have al:=au Hn;have HY:=Uc w3 (xE.below B (ae _));rcases lA with⟨k,j,f⟩|⟨k,f⟩
 (case' inr=>have H:=(show ES (τ (.tuple #[ι κ (0:Nat),χ #[ι κ e,ι κ b]])) (cL cols (.two s a x c))from by simp only[cL,f];exact⟨0,rfl⟩);have T:=iC;rw[show decide (e≠0)=true by simpa using k]);case' inl=>
  subst k;subst j;have hd:decide ((0:Nat)≠0)=false:=rfl;rw[hd];have sJ:=au f;go_wp2_with fail;refine HY.mono ?_;rintro r w4 ⟨hr,Q⟩;obtain⟨k2,e,b,rfl,lA⟩:=zH hr;have a3:=ay V;have a1:=(Q.block _ (ay ab.J)).trans ab.J;have WV:=(Q.block _ (ay al.J)).trans al.J;have K:=(Q.block _ a3).trans V;have Dg:=iC.trans (Q.mono iC.size);have ap:w.heap.size+1≠i.heap.size:=by omega
  have ao:w.heap.size≠i.heap.size:=by omega
  obtain⟨u,y⟩:=nm ((w4.setCell ⟨i.heap.size,0,ν⟩ (ι κ e)).setCell ⟨i.heap.size,1,ν⟩ (ι κ b));have zn:δ w.heap.size w u:=by rw[y];exact(Dg.setCell (p:=⟨i.heap.size,0,ν⟩) (by simp;omega) _).setCell (p:=⟨i.heap.size,1,ν⟩) (by simp;omega) _
  have ac:=au (show u.heap[w.heap.size+1]?=σ (iQ 0 0)from by rw[y];exact(az _ _ _ _ ap).trans ((az _ _ _ _ ap).trans a1));have am:=au (show u.heap[w.heap.size]?=σ (obT (gN s) a (.iface E (rz x)) (.iface G (rz c)))from by rw[y];exact(az _ _ _ _ ao).trans ((az _ _ _ _ ao).trans WV));have aa:=au (show u.heap[i.heap.size]?=σ (iQ e b)from by rw[y];exact aQ _ _ 1 _ _ _ (aQ _ _ 0 _ _ _ K));have av:=sq e b u;have ax:=au y;obtain⟨g0,g1⟩:=aS K;have f0:=bY K 0;have f1:=bY K 1;go_wp2_with fail;rw[<- ax.J];refine av.mono ?_;rintro r w6 ⟨rfl,M⟩;have O:=(M.block _ (ay ac.J)).trans ac.J;have YU:=(M.block _ (ay am.J)).trans am.J;have a0:=(M.block _ (ay aa.J)).trans aa.J;have U:=zn.trans (M.mono zn.size);obtain⟨p0,p1⟩:=aS O;have y0:=bY O 0;have y1:=bY O 1;obtain⟨s0,s1,s2,s3⟩:=eQ YU;obtain⟨g0,g1⟩:=aS a0;have ad:=au O;have an:=au YU;rcases lA with⟨k,j,f⟩|⟨k,f⟩
  (case' inr=>have H:=(show ES (τ (.tuple #[ι κ (0:Nat),χ #[ι κ e,ι κ b]])) (cL cols (.two s a x c))from by simp only[cL,sJ.J,f];exact⟨0,rfl⟩);have T:=U;rw[show decide (e≠0)=true by simpa using k]);case' inl=>subst k;subst j;have hd:decide ((0:Nat)≠0)=false:=rfl;rw[hd];have GH:=aC.J k1 k2 sJ.J f;go_wp2_with fail;refine(HK.J _ _ _).mono ?_;rintro r w7 ⟨rfl,Z⟩;have Y:=(Z.block _ (ay ad.J)).trans ad.J;have a2:=(Z.block _ (ay an.J)).trans an.J;have ar:=U.trans (Z.mono U.size);obtain⟨p0,p1⟩:=aS Y;have y0:=bY Y 0;have y1:=bY Y 1;obtain⟨s0,s1,s2,s3⟩:=eQ a2;have T:=ar;cases ht:kdT (gN s) k1 k2;(case' true=>have H:=(show ES (τ (.tuple #[ι κ (kdK (gN s)),χ #[ι κ 0,ι κ 0]])) (cL cols (.two s a x c))from by rw[GH,ht];rfl));case' false=>have H:=(show ES (τ (.tuple #[ι κ (0:Nat),χ #[ι κ (7:Nat),ι κ a]])) (cL cols (.two s a x c))from by rw[GH,ht];exact⟨0,rfl⟩)
 all_goals go_wp2_with fail;(try go_region);all_goals (try go_wp2_with fail);refine aD (by simp[results,results323,go_sem,p0,p1];rfl) rfl ?_;exact⟨H,by repeat(first|exact T|refine aH ?_|refine below_drewN ?_ _|refine fR ?_ (by simp) _|refine iK ?_ (by simp;omega) _)⟩
theorem acu{cols:List bu}{cv:υ}(r:cols.length<=100000):∀(f:Ex),pI f->GF cols cv f:=by intro f;induction f with|num n=>exactλ_ w _=>NQ 0 n ⟨#[]⟩ cv w|str i=>exactλ_ w _=>NQ 1 0 i cv w|bool b=>(exactλ_ w _=>NQ 2 (if b then 1 else 0) ⟨#[]⟩ cv w)|junk=>exactλ_ w _=>NQ 0 0 ⟨#[]⟩ cv w|col i a=>exactλ_=>alq cols cv r i a|neg a x e=>exactλc=>alr (e c)|not a x e=>exactλc=>als (e c)|j8 s a x e=>exactλc=>agV (e c)|two u a x y j k=>exactλc=>alx c.1 (j c.2.1) (k c.2.2)
def pj(cols:List bu)(e:Ex)(pl:Nat):Nat×Nat:=match cL cols e with|.inr f=>f|.inl k=>if k≠2 then(7,pl)else(0,0)
theorem BV{w:ω}{cols:List bu}{cv:υ}{e:Ex}{pl:Nat}(T:pI e)(P:eT w cv cols)(h5:cols.length<=1000):Calls prog 284 #[χ #[ι κ pl,pz e],cv] w λH w'=>H=τ (χ #[ι κ (pj cols e pl).1,ι κ (pj cols e pl).2])/\δ w.heap.size w w':=by
 obtain⟨u,zq,hm,Pv⟩:=pT e;obtain⟨C,j⟩:=nm ((w.alloc (ags pl (.iface u (rz e)))).alloc (iQ 0 0));have k:=xI j;have hR:C.heap[w.heap.size+1]?=σ (iQ 0 0):=(by rw[j];have O:=ak (w.alloc (ags pl (.iface u (rz e)))) (iQ 0 0);rw[show(w.alloc (ags pl (.iface u (rz e)))).heap.size=w.heap.size+1 by simp]at O;exact O);have hS:C.heap[w.heap.size]?=σ (ags pl (.iface u (rz e))):=by rw[j];exact(fu _ _ (by simp)).trans (ak w _)
 have W:=acu (cols:=cols) (cv:=cv) (by omega) e T C (P.below k (ae _));have A:=k;have I:=au hR;have K:=au hS;have X:=au j;obtain⟨ca,jd,hv⟩:=P.slice;subst hv;rw[zq];go_in;go_wp2_with fail;rw[<- X.J];refine W.mono ?_;rintro H f ⟨hr,i⟩;obtain⟨G,c,b,rfl,lA⟩:=zH hr;have R:=(i.block _ (ay I.J)).trans I.J;have M:=(i.block _ (ay K.J)).trans K.J;have Z:=ay R;have D:δ f.heap.size f (f.alloc (iQ c b)):=(ah _ _).alloc (ae _) _;have N:=au ((D.block _ Z).trans R);have Qh:=au ((D.block _ (ay M)).trans M);have U:=sq c b (f.alloc (iQ c b));have V:=au (ak f (iQ c b));have Q:=(A.trans (i.mono A.size)).trans (D.mono (ag A.size i.size));have lk:w.heap.size+1<(f.alloc (iQ c b)).heap.size:=ay N.J;go_wp2_with fail;refine U.mono ?_;rintro H w3 ⟨rfl,s⟩;have B:=(s.block _ lk).trans N.J;have Y:=(s.block _ (by omega)).trans Qh.J;have Ud:=(s.block _ (by simp)).trans V.J;have iC:=Q.trans (s.mono Q.size);obtain⟨p0,p1⟩:=aS B;have y0:=bY B 0;have y1:=bY B 1;obtain⟨s0,s1⟩:=aS Y;obtain⟨g0,g1⟩:=aS Ud;rcases lA with⟨E,k,r⟩|⟨E,r⟩
 (case' inr=>have y:Hid (pj cols e pl=(c,b)):=au (by unfold pj;rw[r]);rw[show decide (c≠0)=true by simpa using E]);(case' inl=>subst E;subst k;rw[show decide ((0:Nat)≠0)=false from rfl];by_cases hw:G=2;(case' pos=>have y:Hid (pj cols e pl=(0,0)):=au (by unfold pj;rw[r,hw];rfl);have oB:((G:Int) != 2)=false:=by rw[hw];rfl);case' neg=>have y:Hid (pj cols e pl=(7,pl)):=au (by unfold pj;rw[r];simp[hw]);have oB:((G:Int) != 2)=true:=by rw[jD];omega);all_goals go_wp2_with fail;(try go_region);all_goals (try go_wp2_with fail);refine aD (by simp[results,results284,go_sem,p0,p1];rfl) rfl ?_;exact⟨by rw[y.J];try rfl,by repeat(first|exact iC|refine aH ?_|refine below_drewN ?_ _|refine fR ?_ (by simp) _|refine iK ?_ (by simp;omega) _)⟩
theorem YX(n:Int)(a:Option Addr)(m c:Nat)(w:ω):Calls prog 314 #[χ #[ι κ n],ψ a m c] w λe w'=>e=τ (.tuple #[ψ a m c,χ #[ι κ 0,ι κ 0]])/\δ w.heap.size w w':=by go_in;go_wp2_with fail;refine aD (v:=_) (by simp[results,results314,go_sem];rfl) rfl ?_;exact⟨rfl,((ah _ _).alloc (ae _) _).alloc (by simp) _⟩
theorem Qn(n:Int)(a:Option Addr)(m c:Nat)(w:ω):Calls prog 316 #[χ #[ι κ n],ψ a m c] w λe w'=>e=τ (.tuple #[ψ ν 0 0,χ #[ι κ 2,ι κ n]])/\δ w.heap.size w w':=by go_in;go_wp2_with fail;go_region;all_goals (try go_wp2_with fail);refine aD (v:=_) (by simp[results,results316,go_sem];rfl) rfl ?_;exact⟨rfl,aH (((ah _ _).alloc (ae _) _).alloc (by simp) _)⟩
theorem YZ{w:ω}{cols:List bu}{a:Option Addr}{m:Nat}{c:Ex}(E:pI c)(B:eT w (ψ a m i) cols)(H:cols.length<=1000):Calls prog 309 #[χ #[ι κ f,pz c],ψ a m i] w λC w'=>C=τ (.tuple #[ψ a m i,χ #[ι κ (pj cols c f).1,ι κ (pj cols c f).2]])/\δ w.heap.size w w':=by obtain⟨D,N,-⟩:=pT c;obtain⟨O,s⟩:=nm ((w.alloc (obL f (.iface D (rz c)))).alloc (iQ 0 0));obtain⟨e,r,-⟩:=gT w (obL f (.iface D (rz c))) (iQ 0 0);rw[<- s]at e r;have y:=BV (pl:=f) E (B.below e (ae _)) H;have u:=e;have A:=au r;have G:=au s;rw[N]at y ⊢;clear e r s B;go_in;go_wp2_with fail;rw[<- G.J];refine y.mono ?_;rintro C P ⟨rfl,k⟩;have j:=(k.block _ (ay A.J)).trans A.J;obtain⟨K,M⟩:=aS j;have Q:=fP j 0;have R:=fP j 1;have I:=u.trans (k.mono u.size);clear k j;go_wp2_with fail;(try simp only[Exit.inBlock,Exit.then]);refine aD (v:=_) (by simp[results,results309,go_sem,K,M];rfl) rfl ?_;exact⟨rfl,(I.setCell (bF _) _).setCell (bF _) _⟩
theorem Tryz.aal:(prog.info? 110).map (λc=>(c.zero,c.size,c.bytes))=σ (σ (χ #[θ ByteArray.empty,ι κ 0]),2,24):=by kernel_rfl
theorem Tryz.RN:(prog.info? 168).map (λc=>(c.zero,c.size,c.bytes))=σ (σ (χ #[θ ByteArray.empty,ι κ 0,ι κ 0]),3,32):=by kernel_rfl
theorem Tryz.VC:(prog.info? 250).map (λc=>(c.zero,c.size,c.bytes))=σ (σ (χ #[ι κ 0,ι κ 0,.bool false,ι κ 0,θ ByteArray.empty]),5,48):=by kernel_rfl
theorem Tryz.RO:(prog.info? 288).map (λc=>(c.zero,c.size,c.bytes))=σ (σ (χ #[θ ByteArray.empty,ι κ 0,ι κ 0,.nilIface]),4,48):=by kernel_rfl
theorem RP{v:υ}{a:Nat}(e:lenOf r=a+1)(c:lenOf v=a)(f:a<2000):2000 - lenOf r<2000 - lenOf v:=by rw[e,c];omega
section
variable {o:ω×Option Nat} {w w':ω} {p d:Nat} {m:Mode} {L:List It}
theorem Pr.ani(S:Pr o w p d m L):m.len<=400:=by obtain⟨x,l,e,-⟩:=S.ex;have:=e.few;cases m with|dead c b=>exact aI _|live t f=>have c:=a7 List.length e.mode.2;rw[bW]at c;show f.length+1<=400;simp at c;omega
theorem Pr.goes(S:Pr o w p d m L)(e:m.is s=true):m.alive/\m.next.len+1=m.len:=by obtain⟨x,l,c,-⟩:=S.ex;exact c.goes e
theorem Pr.append{t:TypeId}{z n bytes:Nat}{xs:List υ}{cs:Array υ}(S:Pr o w p d m (.inr (ψ c n i,u,z,n,xs)::L))
 {B:Array Oper} {rest:List Oper} {e:Oper} {a:Act} {A:Exit->Act->ω->Prop} (I:e.guard=ν) (y x:Operand) (k:e.op=.call { callee:=.builtin .append,args:=#[y,x],argTypes:=#[t,t] })
 (N:prog.underlying t=σ (.slice u)) (E:(prog.info? u).map (λs=>(s.zero,s.size,s.bytes))=σ (σ r,z,bytes)) (Q:r.cells.size=z) (P:0<z) (j:bytes<=1000) (X:n<=1000)
 (M:a.eval y=ψ c n i) (O:a.eval x=ψ (σ ⟨w.heap.size,0,ν⟩) 1 1) (G:cs.size=z) (D:∀W∈cs.toList,W.oneCell'=true)
 (C:∀g cap w',Pr o w' p d m (.inr (ψ (σ ⟨g,0,ν⟩) (n+1) cap,u,z,n+1,xs++cs.toList)::L)->wpList prog B A rest (a.put e.dst (ψ (σ ⟨g,0,ν⟩) (n+1) cap)) w'):wpList prog B A (e::rest) a (w.alloc (ξ cs u)):=by obtain⟨R,K,T,U,V⟩:=jc E;have f:=S.alloc (ξ cs u);refine cP _ I y x t k o.1.heap.size u R r z bytes N K T U V Q P _ n xs M f.row ⟨w.heap.size,0,ν⟩ 1 1 cs.toList O (by simpa using G) (World.news_of_block (ak w (ξ cs u))) D (by decide) (by unfold maxLen;omega) ?_ f.fr.size ?_;{have:(n+1)*bytes<=1001*1000:=lL (by omega) j;omega};intro g cap w' k H j;exact C g cap w' (f.app k H j)
end
def VD(F p d:Nat){α:Type}(S:Mode->α×Mode)(c:α->List υ)(sh:Array υ->Prop):Prop:=(∀(args:Array υ) (w:ω),Sem.run prog (callFunc F args) w=.ok (.enter F args) w)/\(∀m,(S m).2.len<=m.len)/\
 ∀o w m L,Pr o w p d m L->Calls prog F #[π (σ ⟨p,0,ν⟩)] w λr w'=>∃cs,r=τ (.agg cs)/\sh cs/\Pr o w' p d (S m).2 L/\((S m).2.alive->cs.toList=c (S m).1)
def OX(G T z:Nat)(sh:Array υ->Prop):Prop:=∀(T' z':Nat),T'=T->z'=z->∀{o w p d m L F} {α:Type} {S:Mode->α×Mode} {c:α->List υ},Pr o w p d m L->VD F p d S c sh->
 Calls prog G #[π (σ ⟨p,0,ν⟩),.func (.func F) #[π (σ ⟨p,0,ν⟩)] #[]] w λr w'=>∃va n vc xs,r=τ (ψ va n vc)/\Pr o w' p d (dk S m).2 (.inr (ψ va n vc,T',z',n,xs)::L)/\((dk S m).2.alive->xs=(dk S m).1.flatMap c)
def sh2(cs:Array υ):Prop:=∃s i,cs=#[θ s,ι κ i]
def sh3(cs:Array υ):Prop:=∃s i j,cs=#[θ s,ι κ i,ι κ j]
def sh4(cs:Array υ):Prop:=∃s i j t v,cs=#[θ s,ι κ i,ι κ j,.iface t v]
def sh5(cs:Array υ):Prop:=∃i j b k s,cs=#[ι κ i,ι κ j,.bool b,ι κ k,θ s]
theorem lists:OX 116 110 2 sh2/\OX 82 168 3 sh3/\
 OX 147 288 4 sh4/\OX 113 250 5 sh5:=by
 refine⟨?_,?_,?_,?_⟩;all_goals
  intro aa z Q T o w p d m L F α S ab U ⟨hE,R,P⟩;obtain⟨q,N,fin⟩:=U.start;have Mn:=N.ani;have E2:=R m;go_in;go_wp2_with fail;refine(P _ _ _ _ N).mono ?_;rintro I w1 ⟨cs,rfl,c,X,f⟩;first
   |obtain⟨j,i,rfl⟩:=c
   |obtain⟨j,i,G,rfl⟩:=c
   |obtain⟨j,i,G,t,v,rfl⟩:=c
  have V:=au f;clear f;go_wp2_with fail;go_loopw[5] (λv wr=>∃(m':Mode) (n:Nat) (xs:List υ) (H:List α) (e:Nat) (s:Option Addr) (u:Nat),v=ψ s n u/\Pr (w,q) wr p d m' [.inr (ψ s n u,aa,z,n,xs)]/\n+m'.len<=401/\m'.len<=e/\Hid (jb S e H m'=dk S m)/\Hid (m'.alive->xs=H.flatMap ab)) (λv _=>2000 - lenOf v);(case atStart=>subst Q T;exact⟨_,1,_,[(S m).1],_,_,_,rfl,(X.new _ _).one rfl,by omega,ae _,au rfl,au λD=>by simpa using V.J D⟩);case round=>
   subst Q T;obtain⟨m',n,xs,H,e,s,u,rfl,B,hn,hf,K,M⟩:=hrel;have A:m'.is lT=decide (aV m'.tk=13):=lu (i:=8) B.wf rfl (by decide);obtain⟨r,E⟩:∃r,decide (aV m'.tk=13)=r:=⟨_,rfl⟩;rw[E]at A;have O:=B.IC 13 r E;have y:=au A;clear E A;cases r;{go_wp2_with fail;refine O.mono ?_;rintro I w2 ⟨rfl,k⟩;go_wp2_with fail;go_ret;have ac:=(rS y.J).symm.trans K.J;rw[<- ac];exact⟨s,n,u,xs,rfl,fin [_] k,M.J⟩}
   obtain⟨qB,al⟩:=B.goes y.J;obtain⟨C,rfl⟩:∃C,e=C+1:=⟨e - 1,by omega⟩;have xE:=au (rR K.J y.J);go_wp2_with fail;refine O.mono ?_;rintro I w2 ⟨rfl,k⟩;change Pr _ _ _ _ m'.next _ at k;go_wp2_with fail;refine(P _ _ _ _ k).mono ?_;rintro I w3 ⟨cs,rfl,c,Y,f⟩;have ad:=R m'.next;have W:=au f;clear f;first
    |obtain⟨j,i,rfl⟩:=c
    |obtain⟨j,i,G,rfl⟩:=c
    |obtain⟨j,i,G,t,v,rfl⟩:=c
   go_wp2_with(at_builtin;refine Y.append rfl _ _ rfl (by first|exact underlying180|exact underlying164|exact underlying285|exact underlying172) (by first|exact Tryz.aal|exact Tryz.RN|exact Tryz.RO|exact Tryz.VC) rfl (by decide) (by decide) (by omega) rfl rfl rfl (by simp[Value.oneCell'];done) ?_;intro g cap w5 Z);go_wp2_with fail;go_roundw;(case rel=>exact⟨_,n+1,_,_,C,_,_,rfl,Z,by omega,by omega,xE,au λD=>by rw[M.J qB,W.J D];simp⟩);case measure=>exact RP rfl rfl (by omega)
theorem Ft(c:i≠f):((i:Int)==(f:Int))=false:=by rw[aK];omega
def aam(c:Nm×Nat):List υ:=[θ c.1.1,ι κ c.1.2,ι κ c.2]
def XQ(l:List (Nm×Nat)):List υ:=l.flatMap aam
def sW(v:Bs):List υ:=[ι κ v.pl,ι κ v.kind,.bool v.null,ι κ v.n,θ v.s]
def CX(l:List Bs):List υ:=l.flatMap sW
section
variable {o:ω×Option Nat} {w w':ω} {p d:Nat} {m:Mode} {L:List It}
theorem ail(hw:m.tk.wf):rF m=if aV m.tk=42 then(0,m.next)else if aV m.tk=43 then(1,m.next)else if aV m.tk=44 then(2,m.next)else(2,m.wrong 2):=by unfold rF Mode.take;rw[show m.is akU=decide (aV m.tk=42)from fG (i:=21) hw rfl (by decide),show m.is akV=decide (aV m.tk=43)from fG (i:=22) hw rfl (by decide),show m.is WA=decide (aV m.tk=44)from fG (i:=23) hw rfl (by decide)];simp only[decide_eq_true_eq];split;{rfl};split;{rfl};split<;>rfl
theorem Pr.kind(j:Pr o w p d m L):Calls prog 112 #[π (σ ⟨p,0,ν⟩)] w λi w'=>
 ∃B:Nat,i=τ (ι κ B)/\Pr o w' p d (rF m).2 L/\((rF m).2.alive->B=(rF m).1):=by
 obtain⟨q,S,fin⟩:=j.start;have e:=au (ail j.wf);have s:=S.take;generalize rF m=R at e ⊢;generalize aV m.tk=c at s e;rcases(show c=42\/c=43\/c=44\/(c≠42/\c≠43/\c≠44)by omega)with rfl|rfl|rfl|⟨u,y,A⟩;all_goals
  (try have D:((c:Int)==42)=false:=Ft u);(try have E:((c:Int)==43)=false:=Ft y);(try have G:((c:Int)==44)=false:=Ft A);go_in;go_wp2_with fail;refine s.mono ?_;rintro i H ⟨rfl,k⟩;go_wp2_with fail
  (try
    (with_reducible refine eu ((k.alloc _).refuse _ _ _ _) ?_)
    rintro i I ⟨rfl,r⟩;rw[qo]at r;go_wp2_with fail)
  go_ret;first
   |have f:R=(0,m.next):=by exact e.J
   |have f:R=(1,m.next):=by exact e.J
   |have f:R=(2,m.next):=by exact e.J
   |have f:R=(2,m.wrong 2):=e.J.trans (by rw[aE u,aE y,aE A])
  subst f;first
   |exact⟨_,rfl,fin [] r,λC=>absurd C (dz m 2)⟩
   |exact⟨_,rfl,fin [] (k.alloc _),λ_=>rfl⟩
end
theorem J1(p d:Nat):VD 83 p d uy aam sh3:=⟨call83,λm=>ag (Dv _) (dW m),λo w m L i=>by
 obtain⟨q,S,fin⟩:=i.start;go_in;go_wp2_with fail;refine(S.new #[θ ⟨#[]⟩,ι κ 0,ι κ 0] 168).name.mono ?_;rintro B C ⟨rfl,k⟩;go_wp2_with fail;refine k.kind.mono ?_;rintro B D ⟨s,rfl,c,f⟩;have j:=au f;clear f;obtain⟨u,y,A⟩:=xR c.box;have z:=c.fz;go_wp2_with fail
 (try simp only[Exit.inBlock,Exit.then])
 refine aD (v:=_) (by simp[results,results83,go_sem,u,y,A];rfl) rfl ?_;refine⟨_,rfl,⟨_,_,_,rfl⟩,fin [] (c.au0 _ _ _),λe=>?_⟩;have r:=(om m).2 (back (Dv _) e);show[Value.string (dc m.tk),ι κ m.place,ι κ s]=aam (m.name.1,(rF m.name.2).1);rw[<- r,<- j.J e];rfl⟩
def nJ(K N:Nat)(T:ByteArray):Nat×Nat×ByteArray×Bool:=
 if K=3 then(0,N,⟨#[]⟩,true)else if K=4 then(1,0,T,true)else if K=40 then(2,1,⟨#[]⟩,true)else if K=41 then(2,0,⟨#[]⟩,true)else(0,0,⟨#[]⟩,false)
theorem MS(c e B:Nat)(f:ByteArray)(w:ω):Calls prog 143 #[χ #[ι κ c,ι κ B,θ f,ι κ e]] w λC w'=>
 C=τ (.tuple #[ι κ (nJ c e f).1,χ #[.bool false,ι κ (nJ c e f).2.1,θ (nJ c e f).2.2.1],.bool (nJ c e f).2.2.2])/\δ w.heap.size w w':=by
 have⟨j,r⟩:=nm (nJ c e f);rw[<- r];have i:=au r;clear r;unfold nJ at i;rcases(show c=3\/c=4\/c=40\/c=41\/(c≠3/\c≠4/\c≠40/\c≠41)by omega)with rfl|rfl|rfl|rfl|⟨s,u,y,A⟩
 all_goals
  (try have D:((c:Int)==3)=false:=Ft s);(try have E:((c:Int)==4)=false:=Ft u);(try have G:((c:Int)==40)=false:=Ft y);(try have H:((c:Int)==41)=false:=Ft A);go_in;go_wp2_with fail;(try go_region);all_goals
   (try go_wp2_with fail);(try simp only[Exit.inBlock,Exit.then]);first
    |have k:j=(0,e,⟨#[]⟩,true):=by exact i.J
    |have k:j=(1,0,f,true):=by exact i.J
    |have k:j=(2,1,⟨#[]⟩,true):=by exact i.J
    |have k:j=(2,0,⟨#[]⟩,true):=by exact i.J
    |have k:j=(0,0,⟨#[]⟩,false):=i.J.trans (by rw[aE s,aE u,aE y,aE A])
   subst k;refine aD (by simp[results,results143,go_sem];rfl) rfl ?_;exact⟨rfl,by first|exact aH (((ah _ _).alloc (ae _) _).alloc (by simp) _)|exact((ah _ _).alloc (ae _) _).alloc (by simp) _⟩
def tD(v:Bs):Bs:={ v with kind:=if v.null then 0 else v.kind }
def CY(m:Mode):Bs×Mode:=(tD (jR m).1,(jR m).2)
theorem aan{f k:Type}(c:f->k)(one:Mode->f×Mode)(m:Mode):dk (λm=>(c (one m).1,(one m).2)) m=((dk one m).1.map c,(dk one m).2):=by have i:∀n l m,jb (λm=>(c (one m).1,(one m).2)) n (l.map c) m=((jb one n l m).1.map c,(jb one n l m).2):=(by intro n;induction n with|zero=>(intro l m;rfl)|succ n j=>intro l m;unfold jb;by_cases e:m.is lT=true;{rw[aF e,aF e,<- j];simp};rw[aE e,aE e]);exact i _ [(one m).1] _
theorem VE(m:Mode):dk CY m=((dk jR m).1.map tD,(dk jR m).2):=aan tD jR m
def aeq(m:Mode):List υ×Mode:=
 if aV m.tk=17 then([ι κ m.place,ι κ 0,.bool false,ι κ (-(gP m.next.tk:Int)),θ ⟨#[]⟩],cond (decide (aV m.next.tk=3)) m.next.next (m.next.wrong 2))
 else if aV m.tk=39 then([ι κ m.place,ι κ 0,.bool true,ι κ 0,θ ⟨#[]⟩],m.next)
 else([ι κ m.place,ι κ (nJ (aV m.tk) (gP m.tk) (dc m.tk)).1,.bool false,ι κ (nJ (aV m.tk) (gP m.tk) (dc m.tk)).2.1,θ (nJ (aV m.tk) (gP m.tk) (dc m.tk)).2.2.1],cond (nJ (aV m.tk) (gP m.tk) (dc m.tk)).2.2.2 m.next (m.wrong 2))
theorem anj{m:Mode}(hw:m.tk.wf):(aeq m).2=(CY m).2/\((CY m).2.alive->(aeq m).1=sW (CY m).1):=by have C:m.is oG=decide (aV m.tk=17):=lu (i:=12) hw rfl (by decide);have D:m.is BN=decide (aV m.tk=40):=fG (i:=19) hw rfl (by decide);have E:m.is vZ=decide (aV m.tk=41):=fG (i:=20) hw rfl (by decide);have G:m.is vA=decide (aV m.tk=39):=fG (i:=18) hw rfl (by decide);have k:∀m:Mode,¬(m.wrong 2).alive:=λm=>dz m 2;have f:(⟨#[]⟩:ByteArray)=ByteArray.empty:=rfl;unfold aeq CY jR nJ;rw[C,D,E,G];have⟨c,e⟩:=nm (aV m.tk);rw[<- e];by_cases r:c=17;{simp only[r,decide_true,if_true];have⟨K2,i⟩:=nm (aV m.next.tk);rw[<- i];cases hk:m.next.tk<;>rw[hk]at i;(case num n=>simp[i,aV,gP,sW,tD,f]);all_goals have j:¬K2=3:=(by rw[i];simp only[aV];omega);simp[j,k]};simp only[r,decide_false,if_false,Bool.false_eq_true];cases hk:m.tk<;>rw[hk]at e;(case num n=>simp[e,aV,gP,sW,tD,f]);(case str s=>simp[e,aV,dc,sW,tD]);all_goals have j:¬c=3:=(by rw[e];simp only[aV];omega);have B:¬c=4:=(by rw[e];simp only[aV];omega);by_cases u:c=39;{simp[u,sW,tD,f]};by_cases y:c=40;{simp[y,sW,tD,f]};by_cases A:c=41;{simp[A,sW,tD,f]};simp[j,B,u,y,A,k]
theorem aim{c:Tk}(e:c.wf):(gP c:Int)<=9223372036854775807:=by cases c with|num n=>have:n<=9223372036854775807:=e;show(n:Int)<=_;omega|_=>show(0:Int)<=_;omega
section
variable {o:ω×Option Nat} {w w':ω} {p d b:Nat} {m:Mode} {L:List It} {t:TypeId}
theorem Pr.Qk{x z v:υ}(S:Pr o w p d m (.inl (b,#[x,r,z,y,v],t)::L))(a c e f g:υ):Pr o (((((w.setCell ⟨b,0,ν⟩ a).setCell ⟨b,1,ν⟩ c).setCell ⟨b,2,ν⟩ e).setCell ⟨b,3,ν⟩ f).setCell ⟨b,4,ν⟩ g) p d m (.inl (b,#[a,c,e,f,g],t)::L):=((((S.put 0 a).put 1 c).put 2 e).put 3 f).put 4 g
end
theorem aao(p d:Nat):VD 114 p d CY sW sh5:=⟨call114,AW,λo w m L U=>by
 have⟨q,S,fin⟩:=U.start;have j:=au (anj U.wf);generalize CY m=V at j ⊢;have⟨ab,P⟩:=nm (aeq m);rw[<- P]at j;have e:=au P;unfold aeq at e;have X:=(S.new #[ι κ 0,ι κ 0,.bool false,ι κ 0,θ ⟨#[]⟩] 250).take;have O:=MS (aV m.tk) (gP m.tk) m.place (dc m.tk);clear P;generalize aV m.tk=c at X e O;generalize nJ c (gP m.tk) (dc m.tk)=R at O e;obtain⟨ck,Z,cs,cf⟩:=R;rcases(show c=17\/c=39\/(c≠17/\c≠39)by omega)with k|k|⟨k,h2⟩
 all_goals
  (try have e1:((c:Int)==17)=true:=by rw[k];rfl)
  (try have e1:((c:Int)==17)=false:=Ft (by omega))
  (try have e2:((c:Int)==39)=true:=by rw[k];rfl)
  (try have e2:((c:Int)==39)=false:=Ft (by omega))
  first
   |replace e:=au (e.J.trans (aF k))
   |replace e:=au (e.J.trans ((aE (by omega)).trans (aF k)))
   |replace e:=au (e.J.trans ((aE k).trans (aE h2)))
  clear k;go_in;go_wp2_with fail;refine X.mono ?_;rintro Q T ⟨rfl,r⟩;have⟨H,I,K,M,N⟩:=qn r.box;have z:=r.fz;have hl:=r.at;have W:=r.new #[ι κ c,ι κ m.place,θ (dc m.tk),ι κ (gP m.tk)] 106
 . have hn:=aim r.wf
   have Ld:IntKind.i64.wrap (-(gP m.next.tk:Int))=-(gP m.next.tk:Int):=by rw[kq];omega
   have hf:=λw=>(wN (aV m.next.tk) m.next.place (dc m.next.tk) (gP m.next.tk) w).2.2;have⟨Y,G⟩:=nm (T.alloc (ξ #[ι κ c,ι κ m.place,θ (dc m.tk),ι κ (gP m.tk)] 106 (0,0)));have f:Pr (w,q) Y.drew p d m.next [.inl (T.heap.size,#[ι κ c,ι κ m.place,θ (dc m.tk),ι κ (gP m.tk)],106),.inl (w.heap.size,#[ι κ 0,ι κ 0,.bool false,ι κ 0,θ ⟨#[]⟩],250)]:=by rw[G];exact W.drew
   have aa:=f.must 3 _ rfl;have⟨g0,g1,g2,g3⟩:=dB (show Y.heap[T.heap.size]?=_ from f.box);clear H I K M N z;go_wp2_with fail;have HW:=au G;rw[<- G];clear G;go_region_with(with_reducible refine eu aa ?_;rintro Q w2 ⟨rfl,E⟩;have⟨u0,u1,u2,u3⟩:=dB E.box;obtain⟨H,I,K,M,N⟩:=qn E.drop.box;have z:=E.drop.fz)
   all_goals
    (try go_wp2_with fail)
    have i:=E.drop.Qk (ι κ m.place) (ι κ 0) (.bool false) (ι κ (-(gP m.next.tk:Int))) (θ ⟨#[]⟩);generalize World.setCell _ _ _=WF at i ⊢;have⟨y,A,B,C,D⟩:=qn i.box
    (try simp only[Exit.inBlock,Exit.then])
    refine aD (by simp[results,results114,go_sem,y,A,B,C,D];rfl) rfl ?_;have s:=e.J;subst s;exact⟨_,rfl,⟨_,_,_,_,_,rfl⟩,j.J.1 ▸ fin [] i,λu=>j.J.2 u⟩
 . go_wp2_with fail
   have i:=(r.Qk (ι κ m.place) (ι κ 0) (.bool true) (ι κ 0) (θ ⟨#[]⟩)).alloc (ξ #[ι κ c,ι κ m.place,θ (dc m.tk),ι κ (gP m.tk)] 106);generalize World.alloc (World.setCell _ _ _) _=WF at i ⊢;have⟨y,A,B,C,D⟩:=qn i.box
   (try simp only[Exit.inBlock,Exit.then])
   refine aD (by simp[results,results114,go_sem,y,A,B,C,D];rfl) rfl ?_;have s:=e.J;subst s;exact⟨_,rfl,⟨_,_,_,_,_,rfl⟩,j.J.1 ▸ fin [] i,λu=>j.J.2 u⟩
 . go_wp2_with fail
   refine(O _).mono ?_;rintro Q w2 ⟨rfl,hb⟩;have f:=(W.below hb).new #[.bool false,ι κ Z,θ cs] 229;clear H I K M N z;have⟨t0,t1,t2,t3⟩:=dB f.drop.box
   cases cf
   case' false=>
    go_wp2_with fail;refine(f.refuse _ _ _ _).mono ?_;rintro Q w3 ⟨rfl,f⟩;rw[qo]at f;clear t0 t1 t2 t3;have⟨t0,t1,t2,t3⟩:=dB f.drop.box
   all_goals
    have⟨c0,c1,c2⟩:=xR f.box;have⟨H,I,K,M,N⟩:=qn f.drop.drop.box;have z:=f.drop.drop.fz;go_wp2_with fail;have i:=f.drop.drop.Qk (ι κ m.place) (ι κ ck) (.bool false) (ι κ Z) (θ cs);generalize World.setCell _ _ _=WF at i ⊢;have⟨y,A,B,C,D⟩:=qn i.box
    (try simp only[Exit.inBlock,Exit.then])
    refine aD (by simp[results,results114,go_sem,y,A,B,C,D];rfl) rfl ?_;have s:=e.J;subst s;exact⟨_,rfl,⟨_,_,_,_,_,rfl⟩,j.J.1 ▸ fin [] i,λu=>j.J.2 u⟩⟩
def pM(d:Nat)(m:Mode):Mode:=if d=8 then m.wrong 3 else m.next
def MU(w:ω)(p:Nat):Nat:=
 match w.cell? ⟨p,0,ν⟩,w.cell? (Ad p 1),w.cell? (Ad p 3)with
 |some (.slice _ n _),σ (.int _ q),σ (.int _ e)=>if e=0 then n - q.toNat else 0
 |_,_,_=>0
theorem nu.left{w:ω}{p:Nat}{x:qz}{m:Mode}{l:List Tok}(c:nu w p x m l):MU w p=m.len:=by obtain⟨g,cap,k,A,-⟩:=c.slice;have r:w.cell? (Ad p 0)=σ (ψ (σ (Ad g 0)) l.length cap):=(c.xC.cell 0).trans (by rw[<- k];rfl);have s:w.cell? (Ad p 1)=σ (ι κ x.pos):=c.xC.cell 1;have u:w.cell? (Ad p 3)=σ (ι κ x.e):=c.xC.cell 3;unfold MU;rw[r,s,u];have f:=c.mode;cases m with|dead B b=>(obtain⟨i,-,e,-⟩:=f;have:¬((x.e:Int)=0):=(by omega);simp only[this,if_false];rfl)|live t y=>obtain⟨i,j⟩:=f;have:((x.e:Int)=0):=(by omega);have e:=a7 List.length j;rw[bW]at e;simp only[this,if_true];simp only[List.length_cons]at e;show l.length - x.pos=y.length+1;exact e
theorem nu.deep{w:ω}{p:Nat}{x:qz}{m:Mode}{l:List Tok}(c:nu w p x m l)(d:Nat):nu (w.setCell (Ad p 2) (ι κ (d:Nat))) p { x with depth:=d } m l:=by refine c.put (y:={ x with depth:=d }) 2 _ (by simp[qH]) rfl ?_;have e:=c.mode;cases m with|dead f b=>exact e|live t i=>exact e
def PX(F d:Nat)(S:Mode->Ex×Mode):Prop:=∀{o w p m L},Pr o w p d m L->(m.alive->d<=8)->Calls prog F #[π (σ (Ad p 0))] w λr w'=>
 ∃t v,r=τ (.iface t v)/\Pr o w' p d (S m).2 L/\((S m).2.alive->.iface t v=pz (S m).1)
section
variable {o:ω×Option Nat} {w w':ω} {p d d' F:Nat} {m:Mode} {L:List It} {S:Mode->Ex×Mode}
theorem Pr.left(c:Pr o w p d m L):MU w p=m.len:=by obtain⟨x,l,e,-⟩:=c.ex;exact e.left
theorem Pr.deep(f:Pr o w p d m L)(e:Int)(j:e=d'):Pr o (w.setCell (Ad p 2) (ι κ e)) p d' m L:=by obtain⟨x,l,c,-,i⟩:=f.go;subst j;exact i (c.deep d') rfl (λ_ c=>.inl c) ((aY.qm (ah _ _)).own 2 _)
theorem Pr.aeM(e:Pr o w p d m L):w.cell? (Ad p 2)=σ (ι κ d)/\w.frozen? (Ad p 2)=false:=by obtain⟨x,l,c,rfl,-⟩:=e.ex;exact⟨c.xC.cell 2,c.xC.fz 2⟩
theorem Pr.leave(c:Pr o w p (d+1) m L)(r:d<=100):Calls prog 221 #[π (σ (Ad p 0))] w λf w'=>f=τ (.tuple #[])/\Pr o w' p d m L:=by have⟨i,j⟩:=c.aeM;have k:=c.lt;have e:=c.deep (d':=d) ((d:Int)+1 - 1) (by omega);go_in;go_wp2;go_end0;exact⟨rfl,by simpa using e⟩
theorem Pr.enter(D:Pr o w p d m L)(R:d<=8):Calls prog 220 #[π (σ (Ad p 0))] w λj w'=>
 j=τ (χ #[ι κ (aV m.tk),ι κ m.place,θ (dc m.tk),ι κ (gP m.tk)])/\Pr o w' p (d+1) (pM d m) L:=by
 have⟨q,S,fin⟩:=D.start;have r:(d=8/\pM d m=m.wrong 3)\/(d≠8/\pM d m=m.next):=by unfold pM;by_cases G:d=8<;>simp[G]
 generalize pM d m=M at r ⊢;go_in;go_wp2_with fail;refine(S.new #[ι κ 0,ι κ 0,θ ⟨#[]⟩,ι κ 0] 106).take.mono ?_;rintro j C ⟨rfl,f⟩;have c:=f.new #[ι κ (aV m.tk),ι κ m.place,θ (dc m.tk),ι κ (gP m.tk)] 106;have⟨u,y,A,B⟩:=dB c.box;have⟨s,k⟩:=c.aeM;have Q:¬(p=w.heap.size):=by have:p<w.heap.size:=f.lo.2;omega
 have O:¬(C.heap.size=p):=by have:=f.lt;omega
 have P:¬(C.heap.size=w.heap.size):=by have:=f.at;omega
 rcases r with⟨e,rfl⟩|⟨e,rfl⟩;(case' inl=>have E:((d:Int)==8)=true:=(by rw[e];rfl);clear e;go_wp2_with fail;refine(c.fail 3 m.place (by decide)).mono ?_;rintro j X ⟨rfl,c⟩;rw[qo]at c;clear u y A B s k;have⟨u,y,A,B⟩:=dB c.box;have⟨s,k⟩:=c.aeM);(case' inr=>have E:((d:Int)==8)=false:=Ft e;clear e);all_goals have⟨T,U,V,W⟩:=dB c.drop.box;have z:=c.drop.fz;go_wp2_with fail;have i:=(c.drop.deep (d':=d+1) ((d:Int)+1) (by omega)).agS (ι κ (aV m.tk)) (ι κ m.place) (θ (dc m.tk)) (ι κ (gP m.tk));generalize World.setCell _ _ _=WF at i ⊢;have⟨H,I,K,N⟩:=dB i.box;(try simp only[Exit.inBlock,Exit.then]);refine aD (v:=_) (by simp[results,results220,go_sem,H,I,K,N];try rfl) rfl ?_;exact⟨rfl,fin [] i⟩
theorem Pr.XV(V:∀(y:Array υ) (w:ω),Sem.run prog (callFunc F y) w=.ok (.enter F y) w)(M:PX F d S)(D:Pr o w p d m L)(K:m.alive->d<=8)(B:TypeId)(C:υ)(c:Nat)(k:opsL[aV m.tk]?=σ c) :
 Calls prog 170 #[π (σ (Ad p 0)),.iface B C,.func (.func F) #[π (σ (Ad p 0))] #[]] w λr w'=>
 ∃t v,r=τ (.iface 329 (χ #[ι κ c,ι κ m.place,.iface B C,.iface t v]))/\Pr o w' p d (S m.next).2 L/\((S m.next).2.alive->.iface t v=pz (S m.next).1):=by
 have⟨q,H,fin⟩:=D.start;have W:(aV m.tk:Int)<37:=by have:=(aj.mp k).1;simp[opsL]at this;omega
 have u:=au k;clear k;go_in;go_wp2_with fail;refine H.take.mono ?_;rintro r s ⟨rfl,I⟩;have⟨j,e⟩:=nm (s.alloc (ξ #[ι κ (aV m.tk),ι κ m.place,θ (dc m.tk),ι κ (gP m.tk)] 106 (0,0)));have f:Pr (w,q) j.drew p d m.next [.inl (s.heap.size,#[ι κ (aV m.tk),ι κ m.place,θ (dc m.tk),ι κ (gP m.tk)],106)]:=by rw[e];exact(I.new _ _).drew
 have G:=M f (λN=>K (II N));have⟨Q,R,T,U⟩:=dB (show j.heap[s.heap.size]?=_ from f.box);have X:j.cell? (Ad 8 (aV m.tk))=σ (ι κ c):=f.aln _ c u.J;go_wp2_with fail;have P:=au e;rw[<- e];clear e;go_region_with((with_reducible refine eu G ?_);rintro r O ⟨t,v,rfl,i,A⟩;have⟨Z,u1,u2,u3⟩:=dB i.box;have Y:O.cell? (Ad 8 (aV m.tk))=σ (ι κ c):=i.aln _ c u.J;have E:=au A;clear A);all_goals (try go_wp2_with fail);go_ret;exact⟨t,v,rfl,fin [] i,E.J⟩
theorem Pr.chain(hE:∀(N:Array υ) (w:ω),Sem.run prog (callFunc F N) w=.ok (.enter F N) w)(D:iu S)(P:PX F d S){c:List (ByteArray×Nat)}(hL:IE c)(hn:c.length<=100)(Z:Pr o w p d m L)(O:m.alive->d<=8)(g cap n:Nat)(e:oQ w g (c.map (·.2)))(U:g<w.heap.size)(WJ:g≠p)(E:n=(c.map (·.2)).length) :
 Calls prog 145 #[π (σ (Ad p 0)),.func (.func F) #[π (σ (Ad p 0))] #[],ψ (σ (Ad g 0)) n cap] w λk w'=>
 ∃t v,k=τ (.iface t v)/\Pr o w' p d (ll S (c.map (·.1)) m).2 L/\((ll S (c.map (·.1)) m).2.alive->.iface t v=pz (ll S (c.map (·.1)) m).1):=by
 have⟨q,ad,fin⟩:=Z.start;have ac:=au E;have HK:=au e;clear E e;go_in;go_wp2_with fail;refine(P ad O).mono ?_;rintro k w1 ⟨t1,v1,rfl,P1,R⟩;have aa:=au R;clear R;go_wp2;go_loopw[7] (λv wr=>∃(m':Mode) (t:TypeId) (r:υ) (B:Ex) (j:Nat),v=.iface t r/\Pr (w,q) wr p d m' []/\m'.len<=j/\Hid (fL S (c.map (·.1)) j B m'=ll S (c.map (·.1)) m)/\Hid (m'.alive->.iface t r=pz B)/\(m'.alive->m.alive)) (λ_ wr=>MU wr p);case atStart=>exact⟨_,t1,v1,_,_,rfl,P1,ae _,au rfl,aa,λf=>D.back f⟩
 case round=>obtain⟨m',t,r,B,j,rfl,i,hf,G,H,Q⟩:=hrel;have s:=IG hL i.wf;have V:=i.left;have K:=HK.J.keep i.fr WJ U;obtain⟨u,e⟩:∃u,decide (aV m'.tk∈c.map (·.2))=u:=⟨_,rfl⟩;have y:=i.T8 (c.map (·.2)) g cap K (by simpa using hn) (ai U i.fr.size) u e;rw[<- ac.J]at y;have HL:=au V;clear K V;cases u;{have HF:=au ((Io (s.2 (by simpa using e))).symm.trans G.J);clear s e;go_wp2_with fail;refine y.mono ?_;rintro k w2 ⟨rfl,A⟩;go_wp2;go_ret;rw[<- HF.J];exact⟨t,r,rfl,fin [] A,H.J⟩};have⟨op,M,X,W⟩:=s.1 (by simpa using e);have⟨qB,am⟩:=i.goes W;obtain⟨C,rfl⟩:∃C,j=C+1:=⟨j - 1,by omega⟩;have xE:=au (Im G.J M);have Y:=au X;clear s e M X W;go_wp2_with fail;refine y.mono ?_;rintro k w2 ⟨rfl,A⟩;go_wp2_with fail;refine(A.XV hE P (λf=>O (Q f)) t r _ Y.J).mono ?_;rintro k w3 ⟨t3,v3,rfl,I,T⟩;have ab:=au T;have al:=au I.left;have Zu:=D m'.next;clear T;go_wp2;go_roundw;(case rel=>refine⟨_,_,_,_,C,rfl,I,by omega,xE,au λf=>?_,λf=>Q (II (D.back f))⟩;show _=Value.iface _ (χ #[_,_,pz _,pz _]);rw[<- H.J qB,<- ab.J f]);case measure=>rw[al.J,HL.J];omega
end
theorem J6(w:ω)(e:List Nat)(a:Array υ)(f:∀c (k:c<e.length),a[c]?=σ (ι κ (e[c]:Nat))):oQ (w.alloc (ξ a 104)) w.heap.size e:=λc j=>by
 have i:=ak w (ξ a 104);simp only[World.cell?,i];simpa using f c j
theorem aeN:IE [(bs [42],18),(bs [47],19),(bs [37],20)]:=λm hw q c=>by
 simp only[List.mem_cons,List.not_mem_nil,or_false]at c;rcases c with rfl|rfl|rfl
 . exact⟨lu (i:=13) hw rfl (by decide),by decide⟩
 . exact⟨lu (i:=14) hw rfl (by decide),by decide⟩
 . exact⟨lu (i:=15) hw rfl (by decide),by decide⟩
theorem aaB:IE [(bs [43],16),(bs [45],17)]:=λm hw q c=>by
 simp only[List.mem_cons,List.not_mem_nil,or_false]at c;rcases c with rfl|rfl
 . exact⟨lu (i:=11) hw rfl (by decide),by decide⟩
 . exact⟨lu (i:=12) hw rfl (by decide),by decide⟩
theorem aeO:IE [(bs [97,110,100],35)]:=λm hw q c=>by
 simp only[List.mem_cons,List.not_mem_nil,or_false]at c;subst c
 . exact⟨fG (i:=14) hw rfl (by decide),by decide⟩
theorem VO:IE [(bs [111,114],36)]:=λm hw q c=>by
 simp only[List.mem_cons,List.not_mem_nil,or_false]at c;subst c
 . exact⟨fG (i:=15) hw rfl (by decide),by decide⟩
theorem aeP:IE [(bs [61],8),(bs [60,62],5),(bs [60],9),(bs [60,61],6),(bs [62],10),(bs [62,61],7)]:=λm hw q c=>by
 simp only[List.mem_cons,List.not_mem_nil,or_false]at c;rcases c with rfl|rfl|rfl|rfl|rfl|rfl
 . exact⟨lu (i:=3) hw rfl (by decide),by decide⟩
 . exact⟨lu (i:=0) hw rfl (by decide),by decide⟩
 . exact⟨lu (i:=4) hw rfl (by decide),by decide⟩
 . exact⟨lu (i:=1) hw rfl (by decide),by decide⟩
 . exact⟨lu (i:=5) hw rfl (by decide),by decide⟩
 . exact⟨lu (i:=2) hw rfl (by decide),by decide⟩
section
variable {o:ω×Option Nat} {w w':ω} {p d F:Nat} {m:Mode} {L:List It} {S:Mode->Ex×Mode} {sub:Option rN}
theorem Fv(hw:m.tk.wf):m.is cY=decide (aV m.tk=12):=lu (i:=7) hw rfl (by decide)
theorem J7(hw:m.tk.wf):m.is cq=decide (aV m.tk=11):=lu (i:=6) hw rfl (by decide)
theorem arP(hw:m.tk.wf):m.is vA=decide (aV m.tk=39):=fG (i:=18) hw rfl (by decide)
theorem XW(e:d<=8)(c:(pM d m).alive):d+1<=8:=by unfold pM at c;split at c;{exact absurd c (dz _ _)};omega
theorem Pr.nested(C:∀(f:Array υ) (w:ω),Sem.run prog (callFunc F f) w=.ok (.enter F f) w)(B:PX F (d+1) S)(r:Pr o w p d m L)(j:d<=8)(i:Nat) :
 Calls prog 195 #[π (σ ⟨p,0,ν⟩),ι κ (i:Nat),.func (.func F) #[π (σ ⟨p,0,ν⟩)] #[]] w λc w'=>
 ∃t v,c=τ (.iface 325 (χ #[ι κ (i:Nat),ι κ m.place,.iface t v]))/\Pr o w' p d (S (pM d m)).2 L/\((S (pM d m)).2.alive->.iface t v=pz (S (pM d m)).1):=by obtain⟨q,u,fin⟩:=r.start;go_in;go_wp2_with fail;refine(u.enter j).mono ?_;rintro c D ⟨rfl,y⟩;go_wp2_with fail;refine(B (y.new _ _) (XW j)).mono ?_;rintro c E ⟨t,v,rfl,A,k⟩;have s:=au k;clear k;go_wp2_with fail;refine(A.leave (by omega)).mono ?_;rintro c G ⟨rfl,e⟩;obtain⟨H,I,K,M⟩:=dB e.box;go_wp2_with fail;go_ret;exact⟨t,v,rfl,fin [] e,s.J⟩
theorem Pr.bracket(A:PX 117 (d+1) S)(i:Pr o w p d m L)(e:d<=8):Calls prog 255 #[π (σ ⟨p,0,ν⟩)] w λc w'=>
 ∃t v,c=τ (.iface t v)/\Pr o w' p d ((S (pM d m)).2.take cY) L/\((S (pM d m)).2.alive->.iface t v=pz (S (pM d m)).1):=by obtain⟨q,k,fin⟩:=i.start;go_in;go_wp2_with fail;refine(k.enter e).mono ?_;rintro c B ⟨rfl,r⟩;go_wp2_with fail;refine(A r (XW e)).mono ?_;rintro c C ⟨t,v,rfl,s,f⟩;have j:=au f;clear f;go_wp2_with fail;refine(s.sign Fv).mono ?_;rintro c D ⟨rfl,u⟩;go_wp2_with fail;refine(u.leave (by omega)).mono ?_;rintro c E ⟨rfl,y⟩;go_wp2_with fail;go_ret;exact⟨t,v,rfl,fin [] y,j.J⟩
theorem AB(j:zG sub):(PX 251 d (gL sub)->PX 240 d (BO sub))/\(PX 240 d (BO sub)->PX 222 d (gb sub))/\
 (PX 171 d (gj sub)->PX 146 d (yP sub))/\(PX 146 d (yP sub)->PX 117 d (fE sub)):=by
 refine⟨?_,?_,?_,?_⟩;all_goals
  intro i o w p m L u f;obtain⟨q,c,fin⟩:=u.start;have B:=c.lt;first
   |have e:=(c.alloc (ξ #[ι κ 18,ι κ 19,ι κ 20] 104)).chain call251 (iu.turn j) i aeN (by decide) f w.heap.size 3 3 (J6 w _ _ (λr k=>match r,k with|0,_=>rfl|1,_=>rfl|2,_=>rfl)) (by simp) (by omega) rfl
   |have e:=(c.alloc (ξ #[ι κ 16,ι κ 17] 104)).chain call240 (iu.part j) i aaB (by decide) f w.heap.size 2 2 (J6 w _ _ (λr k=>match r,k with|0,_=>rfl|1,_=>rfl)) (by simp) (by omega) rfl
   |have e:=(c.alloc (ξ #[ι κ 35] 104)).chain call171 (iu.Dl j) i aeO (by decide) f w.heap.size 1 1 (T7 w 35) (by simp) (by omega) rfl
   |have e:=(c.alloc (ξ #[ι κ 36] 104)).chain call146 (iu.both j) i VO (by decide) f w.heap.size 1 1 (T7 w 36) (by simp) (by omega) rfl
  go_in;go_wp2_with fail;refine e.mono ?_;rintro C D ⟨t,v,rfl,A,s⟩;have y:=au s;clear s;go_wp2_with fail;go_ret;exact⟨t,v,rfl,fin [] A,y.J⟩
end
def Rdx(o:ω×Option Nat)(w':ω)(p d:Nat)(L:List It)(R:Ex×Mode)(r:Ending):Prop:=∃t v,r=τ (.iface t v)/\Pr o w' p d R.2 L/\(R.2.alive->.iface t v=pz R.1)
section
variable {o:ω×Option Nat} {w w':ω} {p d F:Nat} {m:Mode} {L:List It} {S:Mode->Ex×Mode} {sub:Option rN}
theorem aiy(hw:m.tk.wf)(y:m.is cq=false):(aV m.tk=2->ja sub m=(.col (dc m.tk) m.place,m.next))/\
 (aV m.tk≠2->pz (ja sub m).1=T9 (nJ (aV m.tk) (gP m.tk) (dc m.tk)).1 (nJ (aV m.tk) (gP m.tk) (dc m.tk)).2.1 (nJ (aV m.tk) (gP m.tk) (dc m.tk)).2.2.1/\(ja sub m).2=cond (nJ (aV m.tk) (gP m.tk) (dc m.tk)).2.2.2 m.next (m.wrong 2)):=by
 have j:m.is BN=decide (aV m.tk=40):=fG (i:=19) hw rfl (by decide);have k:m.is vZ=decide (aV m.tk=41):=fG (i:=20) hw rfl (by decide);unfold ja Mode.is at *;rw[aE (by rw[y];decide)];have⟨e,c⟩:=nm (aV m.tk);rw[<- c]at j k ⊢;cases hk:m.tk<;>rw[hk]at c j k;case name t=>exact⟨λ_=>rfl,λf=>absurd c f⟩
 case num n=>exact⟨(λf=>by rw[f]at c;cases c),λ_=>by rw[c];exact⟨rfl,rfl⟩⟩
 case str n=>exact⟨(λf=>by rw[f]at c;cases c),λ_=>by rw[c];exact⟨rfl,rfl⟩⟩
 (case word s=>have i:¬e=3/\¬e=4/\¬e=2:=(by rw[c];simp only[aV];omega);refine⟨λf=>absurd f i.2.2,λ_=>?_⟩;simp only at j k;unfold nJ;simp only[j,k,i,if_false];by_cases r:e=40;{simp[r,pz]};by_cases u:e=41;{simp[u,pz]};simp[r,u,pz]);all_goals
  have i:¬e=3/\¬e=4/\¬e=2/\¬e=40/\¬e=41:=by
   rw[hk]at hw;rw[c];first
    | (have A:xN gd _<16:=(aj.mp (Hl hw)).1
       simp only[aV];omega)
    | (simp only[aV];omega)
  refine⟨λf=>absurd f i.2.2.1,λ_=>?_⟩;unfold nJ;simp[i,pz]
theorem atoms(C:∀{o w p m L},Pr o w p d m L->(m.alive->d<=8)->m.is cq=true->Calls prog 255 #[π (σ ⟨p,0,ν⟩)] w λe w'=>Rdx o w' p d L (ja sub m) e):PX 254 d (ja sub):=by
 intro o w p m L s T;have⟨q,N,fin⟩:=s.start;obtain⟨r,I⟩:∃r,decide (aV m.tk=11)=r:=⟨_,rfl⟩;have K:=J7 s.wf;rw[I]at K;have G:=N.is1 11 r I;have c:=au (aiy (sub:=sub) s.wf);have D:=λ{w'} (y:Pr (w,q) w' p d m [])=>C y T;have u:=MS (aV m.tk) (gP m.tk) m.place (dc m.tk);generalize ja sub m=A at c D ⊢;have E:=au K;cases r
 .replace c:=au (c.J E.J);have H:=λ{w'} (y:Pr (w,q) w' p d m [])=>y.take;generalize aV m.tk=f at c u H;generalize nJ f (gP m.tk) (dc m.tk)=R at u c;obtain⟨Y,P,cs,O⟩:=R;rcases(show f=2\/f≠2 by omega)with j|j
  all_goals
   (try have Q:((f:Int)==2)=true:=by rw[j];rfl);(try have Q:((f:Int)==2)=false:=Ft j);first
    |replace c:=au (c.J.1 j)
    |replace c:=au (c.J.2 j)
   go_in;go_wp2_with fail;refine G.mono ?_;rintro e V ⟨rfl,B⟩;go_wp2_with fail;refine(H B).mono ?_;rintro e W ⟨rfl,k⟩;go_wp2_with fail
  {go_ret;rw[c.J];exact⟨_,_,rfl,fin [] (k.alloc _),λ_=>rfl⟩};refine(u _).mono ?_;rintro e w3 ⟨rfl,C⟩;have i:=((k.new #[ι κ f,ι κ m.place,θ (dc m.tk),ι κ (gP m.tk)] 106).below C).new #[.bool false,ι κ P,θ cs] 229;have⟨Z,t1,t2,t3⟩:=dB i.drop.box;cases O;(case' false=>go_wp2_with fail;refine(i.refuse _ _ _ _).mono ?_;rintro e w4 ⟨rfl,i⟩;rw[qo]at i);all_goals have⟨X,c1,c2⟩:=xR i.box;go_wp2;go_ret;exact⟨_,_,rfl,c.J.2 ▸ fin [] i,λ_=>c.J.1.symm⟩
 go_in;go_wp2_with fail;refine G.mono ?_;rintro e V ⟨rfl,B⟩;go_wp2_with fail;refine(D B E.J).mono ?_;rintro e W ⟨t,v,rfl,k,U⟩;have M:=au U;go_wp2;go_ret;exact⟨t,v,rfl,fin [] k,M.J⟩
theorem turns:(PX 254 d (ja sub)->(∀{o w p m L},Pr o w p d m L->(m.alive->d<=8)->m.is oG=true->Calls prog 195 #[π (σ ⟨p,0,ν⟩),ι κ 13,.func (.func 251) #[π (σ ⟨p,0,ν⟩)] #[]] w λi w'=>Rdx o w' p d L (gL sub m) i)->PX 251 d (gL sub))/\
 (PX 196 d (kP sub)->(∀{o w p m L},Pr o w p d m L->(m.alive->d<=8)->m.is y9=true->Calls prog 195 #[π (σ ⟨p,0,ν⟩),ι κ 14,.func (.func 171) #[π (σ ⟨p,0,ν⟩)] #[]] w λi w'=>Rdx o w' p d L (gj sub m) i)->PX 171 d (gj sub)):=by
 refine⟨?_,?_⟩;all_goals
  intro M E o w p m L y u;have⟨q,C,fin⟩:=y.start;have hw:=y.wf;first
   | (obtain⟨c,f⟩:∃c,decide (aV m.tk=17)=c:=⟨_,rfl⟩
      have k:m.is oG=decide (aV m.tk=17):=lu (i:=12) hw rfl (by decide);have r:m.is oG=false->gL sub m=ja sub m:=λe=>by unfold gL;rw[aE (by rw[e];decide)]
      rw[f]at k;have B:=C.is1 17 c f;have j:=λ{w'} (s:Pr (w,q) w' p d m []) (e:m.is oG=true)=>E s u e;generalize gL sub m=R at r j ⊢)
   | (obtain⟨c,f⟩:∃c,decide (aV m.tk=37)=c:=⟨_,rfl⟩
      have k:m.is y9=decide (aV m.tk=37):=fG (i:=16) hw rfl (by decide);have r:m.is y9=false->gj sub m=kP sub m:=λe=>by unfold gj;rw[aE (by rw[e];decide)]
      rw[f]at k;have B:=C.is1 37 c f;have j:=λ{w'} (s:Pr (w,q) w' p d m [])=>E s u;generalize gj sub m=R at r j ⊢)
  have A:=au k;have H:=au r;cases c;all_goals
   go_in;go_wp2_with fail;refine B.mono ?_;rintro i O ⟨rfl,D⟩;go_wp2_with fail;first
    | (refine(j D A.J).mono ?_)
    | (have K:=H.J A.J
       subst K;refine(M D u).mono ?_)
   rintro i P ⟨t,v,rfl,I,N⟩;have G:=au N;go_wp2;go_ret;exact⟨t,v,rfl,fin [] I,G.J⟩
theorem tests(hl:zG sub)(T:PX 222 d (gb sub)):PX 196 d (kP sub):=by
 intro o w p m L aa Q;have⟨q,ac,fin⟩:=aa.start;have⟨c,y⟩:=nm (gb sub m);have f:Hid (kP sub m=match iW.find? (λo=>c.2.is o)with
  |some o=>(.two o c.2.place c.1 (gb sub c.2.next).1,(gb sub c.2.next).2)
  |none=>if c.2.is kIs then(.j8 (c.2.next.is y9) c.2.place c.1,(if c.2.next.is y9 then c.2.next.next else c.2.next).take vA)else c):=au (by rw[y];rfl)
 have M:=T ac Q;have hb:c.2.alive->d<=8:=λD=>Q ((iu.total hl).back (m:=m) (y ▸ D));rw[<- y]at M;generalize kP sub m=R at f ⊢;clear y;go_in;go_wp2_with fail;refine M.mono ?_;rintro k w1 ⟨Y,Z,rfl,s,K⟩;have B:=au K;have A:=IG aeP s.wf;have V:c.2.is kIs=decide (aV c.2.tk=38):=fG (i:=17) s.wf rfl (by decide);obtain⟨e,i⟩:∃e,decide (aV c.2.tk∈[8,5,9,6,10,7])=e:=⟨_,rfl⟩;have I:=(s.alloc (ξ #[ι κ 8,ι κ 5,ι κ 9,ι κ 6,ι κ 10,ι κ 7] 104)).T8 [8,5,9,6,10,7] w1.heap.size 6 (J6 w1 [8,5,9,6,10,7] _ (λad hj=>match ad,hj with|0,_=>rfl|1,_=>rfl|2,_=>rfl|3,_=>rfl|4,_=>rfl|5,_=>rfl)) (by decide) (by simp) e i;have r:=au V;clear K V;cases e;{have O:iW.find? (λo=>c.2.is o)=ν:=A.2 (by simpa using i);replace f:=f.J;rw[O]at f;replace f:=au f;clear O A i;obtain⟨e,i⟩:∃e,decide (aV c.2.tk=38)=e:=⟨_,rfl⟩;have H:=au i;clear i;cases e;(all_goals go_wp2_with fail;refine I.mono ?_;rintro k w2 ⟨rfl,u⟩;go_wp2_with fail;refine(u.IC 38 _ H.J).mono ?_;rintro k w3 ⟨rfl,j⟩;replace r:=au (r.J.trans H.J));{go_wp2;go_ret;have C:R=c:=f.J.trans (by simp only[r.J];rfl);rw[C];exact⟨Y,Z,rfl,fin [] j,B.J⟩};change Pr _ _ _ _ c.2.next _ at j;have G:=(u.goes r.J).1;have E:c.2.next.is y9=decide (aV c.2.next.tk=37):=fG (i:=16) j.wf rfl (by decide);obtain⟨e,i⟩:∃e,decide (aV c.2.next.tk=37)=e:=⟨_,rfl⟩;rw[i]at E;have T4:=j.IC 37 e i;have C:R=(.j8 e c.2.place c.1,(cond e c.2.next.next c.2.next).take vA):=f.J.trans (by simp only[r.J,E,if_true];cases e<;>rfl);subst C;clear i E;go_wp2_with fail;refine T4.mono ?_;rintro k w4 ⟨rfl,S4⟩;go_wp2_with fail;refine(S4.sign arP).mono ?_;rintro k w5 ⟨rfl,S5⟩;go_wp2;go_ret;refine⟨_,_,rfl,fin [] S5,λ_=>?_⟩;show _=Value.iface _ (χ #[pz c.1,_]);rw[<- B.J G]};have⟨op,N,X,W⟩:=A.1 (by simpa using i);have P:iW.find? (λo=>c.2.is o)=σ op:=N;replace f:=f.J;rw[P]at f;subst f;have G:=(s.goes W).1;have Dr:=au X;clear A i N P X W;go_wp2_with fail;refine I.mono ?_;rintro k w2 ⟨rfl,u⟩;go_wp2_with fail;refine(u.XV call222 T hb Y Z _ Dr.J).mono ?_;rintro k w3 ⟨t3,v3,rfl,j,U⟩;have ab:=au U;clear U;go_wp2;go_ret;refine⟨_,_,rfl,fin [] j,λD=>?_⟩;show _=Value.iface _ (χ #[_,_,pz c.1,pz _]);rw[<- B.J G,<- ab.J D]
theorem O5(s:m.alive)(f:d<=8):(m.is cq=true->(fE (lvl (8 - (d+1))) (pM d m)).2.take cY=(ja (lvl (8 - d)) m).2/\((ja (lvl (8 - d)) m).2.alive->pz (fE (lvl (8 - (d+1))) (pM d m)).1=pz (ja (lvl (8 - d)) m).1))/\
 (m.is oG=true->(gL (lvl (8 - (d+1))) (pM d m)).2=(gL (lvl (8 - d)) m).2/\((gL (lvl (8 - d)) m).2.alive->pz (.neg m.place (gL (lvl (8 - (d+1))) (pM d m)).1)=pz (gL (lvl (8 - d)) m).1))/\
 (m.is y9=true->(gj (lvl (8 - (d+1))) (pM d m)).2=(gj (lvl (8 - d)) m).2/\((gj (lvl (8 - d)) m).2.alive->pz (.not m.place (gj (lvl (8 - (d+1))) (pM d m)).1)=pz (gj (lvl (8 - d)) m).1)):=by
 by_cases k:d=8
 .subst k;have i:pM 8 m=.dead 3 m.place:=by cases m with
   |live t u=>rfl
   |dead a b=>exact absurd s (λf=>f)
  have j:m.wrong 3=.dead 3 m.place:=i;rw[i];refine⟨λc=>?_,λc=>?_,λc=>?_⟩;{unfold ja;rw[aF c];exact⟨j.symm,λf=>absurd f (dz _ _)⟩}
  .conv=>{ lhs;rhs;unfold gL }
   unfold gL;rw[aF c];exact⟨j.symm,λf=>absurd f (dz _ _)⟩
  unfold gj;rw[aF c];exact⟨j.symm,λf=>absurd f (dz _ _)⟩
 obtain⟨e,r⟩:∃e,8 - d=e+1:=⟨7 - d,by omega⟩;have i:pM d m=m.next:=aE k;rw[show 8 - (d+1)=e by omega,r,i];refine⟨λc=>?_,λc=>?_,λc=>?_⟩;{unfold ja;rw[aF c];exact⟨rfl,λ_=>rfl⟩};{rw[show gL (lvl (e+1)) m=(.neg m.place (gL (lvl e) m.next).1,(gL (lvl e) m.next).2)from aF c];exact⟨rfl,λ_=>rfl⟩};rw[show gj (lvl (e+1)) m=(.not m.place (gj (lvl e) m.next).1,(gj (lvl e) m.next).2)from aF c];exact⟨rfl,λ_=>rfl⟩
theorem levels:∀y d,d+y=9->PX 251 d (gL (lvl (8 - d)))/\PX 171 d (gj (lvl (8 - d)))/\PX 117 d (fE (lvl (8 - d))):=by
 intro y;induction y with
 |zero=>
  intro d E;have f:=Cu (8 - d);have A:∀{m:Mode} {D:ByteArray} {B:Prop},(m.alive->d<=8)->m.is D=true->B:=λ{m D B} c e=>by
   cases m with
   |live t M=>have:=c trivial;omega
   |dead a b=>simp[Mode.is,Mode.tk]at e
  have s:PX 251 d (gL (lvl (8 - d))):=turns.1 (atoms (sub:=lvl (8 - d)) (λ_ c e=>A c e)) (λ_ c e=>A c e);have u:PX 171 d (gj (lvl (8 - d))):=turns.2 (tests f ((AB f).2.1 ((AB f).1 s))) (λ_ c e=>A c e);exact⟨s,u,(AB f).2.2.2 ((AB f).2.2.1 u)⟩
 |succ y K=>
  intro d E;have f:=Cu (8 - d);have⟨G,H,I⟩:=K (d+1) (by omega);have s:PX 251 d (gL (lvl (8 - d))):=turns.1 (atoms (sub:=lvl (8 - d)) (λj c e=>by
   have i:=(j.goes e).1;have n:=(O5 i (c i)).1 e;refine(j.bracket I (c i)).mono ?_;rintro C w' ⟨t,v,rfl,S,r⟩;rw[n.1]at S;exact⟨t,v,rfl,S,λk=>(r (jJ (n.1 ▸ k))).trans (n.2 k)⟩)) (λj c e=>by
   have i:=(j.goes e).1;have n:=(O5 i (c i)).2.1 e;refine(j.nested call251 G (c i) 13).mono ?_;rintro C w' ⟨t,v,rfl,S,r⟩;rw[n.1]at S;exact⟨_,_,rfl,S,λk=>by rw[<- n.2 k,r (n.1 ▸ k)];rfl⟩)
  have u:PX 171 d (gj (lvl (8 - d))):=turns.2 (tests f ((AB f).2.1 ((AB f).1 s))) (λj c e=>by
   have i:=(j.goes e).1;have n:=(O5 i (c i)).2.2 e;refine(j.nested call171 H (c i) 14).mono ?_;rintro C w' ⟨t,v,rfl,S,r⟩;rw[n.1]at S;exact⟨_,_,rfl,S,λk=>by rw[<- n.2 k,r (n.1 ▸ k)];rfl⟩)
  exact⟨s,u,(AB f).2.2.2 ((AB f).2.2.1 u)⟩
theorem Pr.formula(f:Pr o w p 0 m L):Calls prog 87 #[π (σ ⟨p,0,ν⟩)] w λe w'=>
 ∃t v,e=τ (χ #[ι κ m.place,.iface t v])/\Pr o w' p 0 (mO m).2 L/\((mO m).2.alive->.iface t v=pz (mO m).1.1):=by have⟨q,j,fin⟩:=f.start;have y:=λw=>(wN (aV m.tk) m.place (dc m.tk) (gP m.tk) w).2.1;go_in;go_wp2_with fail;refine(j.new #[ι κ 0,.nilIface] 185).next.mono ?_;rintro e A ⟨rfl,k⟩;go_wp2_with fail;refine((levels 9 0 rfl).2.2 k (λ_=>by omega)).mono ?_;rintro e B ⟨t,v,rfl,c,r⟩;have i:=au r;have⟨s,u⟩:=fN c.box;have z:=c.fz;go_wp2;(try simp only[Exit.inBlock,Exit.then]);refine aD (v:=_) (by simp[results,results87,go_sem,s,u];rfl) rfl ?_;exact⟨t,v,rfl,fin [] (c.YQ _ _),i.J⟩
end
def mL(m:Mode):Mode:=m.name.2.take wJ
def O6(m:Mode):Bool:=m.is iB||m.is tO||m.is ux||m.is vw
def qi(m:Mode):Mode:=(if O6 (mL m)then(mL m).next else(mL m).wrong 2).take cq
def fnM(m:Mode):ByteArray:=match m.tk with
 |.word s=>s
 |.sign s=>s
 |_=>ByteArray.empty
theorem Bk(m:Mode):jX m=if(mL m).is iB&&(qi m).is cY then(⟨m.name.1,fnM (mL m),(mL m).place,(ByteArray.empty,0),true⟩,(qi m).take cY)
 else(⟨m.name.1,fnM (mL m),(mL m).place,(qi m).name.1,false⟩,(qi m).name.2.take cY):=rfl
theorem C0(m:Mode):(qi m).len<=(mL m).len:=by unfold qi;refine ag (take_len _ _) ?_;split;{exact dD};exact rT _ 2
theorem VP(m:Mode):(mL m).len<=m.len:=ag (take_len _ _) (dW m)
theorem MV(m:Mode):(jX m).2.len<=m.len:=by have c:=ag (C0 m) (VP m);rw[Bk];split;{exact ag (take_len _ _) c};exact ag (take_len _ _) (ag (dW _) c)
theorem aeQ{m:Mode}(hw:m.tk.wf):O6 m=decide (aV m.tk=45\/aV m.tk=46\/aV m.tk=47\/aV m.tk=48):=by unfold O6;rw[show m.is iB=decide (aV m.tk=45)from fG (i:=24) hw rfl (by decide),show m.is tO=decide (aV m.tk=46)from fG (i:=25) hw rfl (by decide),show m.is ux=decide (aV m.tk=47)from fG (i:=26) hw rfl (by decide),show m.is vw=decide (aV m.tk=48)from fG (i:=27) hw rfl (by decide)];by_cases c:aV m.tk=45;{simp[c]};by_cases e:aV m.tk=46;{simp[e]};by_cases f:aV m.tk=47;{simp[f]};by_cases i:aV m.tk=48;{simp[i]};simp[c,e,f,i]
def XY(way:Nat)(m:Mode):Mode:=if way=45/\aV m.tk=12 then m else m.name.2
theorem aeR{m:Mode}(k:(mL m).tk.wf)(i:(qi m).tk.wf):(XY (aV (mL m).tk) (qi m)).take cY=(jX m).2:=by have j:(mL m).is iB=decide (aV (mL m).tk=45):=fG (i:=24) k rfl (by decide);rw[Bk,j,Fv i];unfold XY;by_cases c:aV (mL m).tk=45;{by_cases e:aV (qi m).tk=12;{rw[aF ⟨c,e⟩,bU c,bU e];rfl};rw[aE (λf=>e f.2),bU c,aN e];rfl};rw[aE (λf=>c f.1),aN c];rfl
theorem RY{m:Mode}(hw:m.tk.wf):m.is iR=decide (aV m.tk=15):=lu (i:=10) hw rfl (by decide)
def C4(m:Mode):List Nm×Mode:=match m.tk with
 |.name _=>jQ m
 |_=>([],m)
def XZ(m:Mode):List Nm×Mode:=if aV m.tk=15 then([],m)else jQ m
theorem aiz{m:Mode}(hw:m.tk.wf):(XZ m).2.take iR=(C4 m).2.take iR/\(((C4 m).2.take iR).alive->(XZ m).1=(C4 m).1):=by have r:=RY hw;unfold XZ C4;have other:(¬∃t,m.tk=.name t)->¬aV m.tk=15->(jQ m).2.take iR=m.take iR/\¬(m.take iR).alive:=(by intro s c;have u:m.name.2=m.wrong 2:=(by unfold Mode.name;split;{exact absurd ⟨_,‹m.tk=_›⟩ s};rfl);have⟨a,b,e⟩:=xS m 2;have i:(jQ m).2=.dead a b:=YT (by rw[u,e]);have j:m.take iR=.dead a b:=(by unfold Mode.take;rw[r,aN c,<- e];rfl);rw[i,j];exact⟨rfl,λf=>f⟩);by_cases c:aV m.tk=15;{rw[aF c];cases hk:m.tk with|name t=>rw[hk]at c;simp[aV]at c|_=>exact⟨rfl,λ_=>rfl⟩};rw[aE c];cases hk:m.tk with|name t=>exact⟨rfl,λ_=>rfl⟩|_=>have⟨A,B⟩:=other (by rw[hk];rintro⟨t,y⟩;cases y) c;exact⟨A,λk=>absurd k B⟩
def anA(c:Nm×(Ex×Nat)):List υ:=[θ c.1.1,ι κ c.1.2,ι κ c.2.2,pz c.2.1]
def arR(l:List (Nm×(Ex×Nat))):List υ:=l.flatMap anA
theorem Gk(m:Mode):(fA m).2.len<=m.len:=ag (Qc _) (ag (take_len _ _) (dW m))
section
variable {o:ω×Option Nat} {w w':ω} {p d:Nat} {m:Mode} {L:List It}
theorem iEq(hw:m.tk.wf):m.is wJ=decide (aV m.tk=8):=lu (i:=3) hw rfl (by decide)
theorem iOn(hw:m.tk.wf):m.is zj=decide (aV m.tk=25):=fG (i:=4) hw rfl (by decide)
theorem arS(hw:m.tk.wf):m.is Ij=decide (aV m.tk=28):=fG (i:=7) hw rfl (by decide)
theorem aeS(p d:Nat):VD 61 p d Mode.name Du sh2:=⟨call61,dW,λo w m L c=>by
 refine c.name.mono ?_;rintro f w' ⟨rfl,S⟩;exact⟨_,rfl,⟨_,_,rfl⟩,S,λe=>by rw[<- (om m).2 e];rfl⟩⟩
theorem Pr.names(i:Pr o w p d m L):Calls prog 86 #[π (σ ⟨p,0,ν⟩)] w λf w'=>
 ∃c n e xs,f=τ (ψ c n e)/\Pr o w' p d (jQ m).2 (.inr (ψ c n e,110,2,n,xs)::L)/\((jQ m).2.alive->xs=(jQ m).1.flatMap Du):=by have⟨q,k,fin⟩:=i.start;go_in;go_wp2_with fail;refine(lists.1 _ _ rfl rfl k (aeS p d)).mono ?_;rintro f u ⟨c,n,e,xs,rfl,r,s⟩;have j:=au s;go_wp2;go_ret;exact⟨c,n,e,xs,rfl,fin [_] r,j.J⟩
theorem VQ(p:Nat):VD 148 p 0 fA anA sh4:=⟨call148,Gk,λo w m L r=>by
 have⟨q,y,fin⟩:=r.start;go_in;go_wp2_with fail;refine(y.new #[θ ⟨#[]⟩,ι κ 0,ι κ 0,.nilIface] 288).name.mono ?_;rintro k E ⟨rfl,e⟩;go_wp2_with fail;refine((e.new #[θ (dc m.tk),ι κ m.place] 110).sign iEq).mono ?_;rintro k N ⟨rfl,f⟩;have u:=f.drew.formula;have⟨H,I⟩:=fN f.box;have G:¬(E.heap.size=w.heap.size):=by have:=e.at;omega
 go_wp2_with fail;go_region_with((with_reducible refine eu u ?_);rintro k O ⟨t,v,rfl,c,j⟩;have⟨K,M⟩:=fN c.box;obtain⟨A,B,C,D⟩:=dB c.drop.box;have z:=c.drop.fz;have s:=au j;clear j)
 all_goals
  (try go_wp2_with fail)
  (try simp only[Exit.inBlock,Exit.then])
  refine aD (v:=_) (by simp[results,results148,go_sem,A,B,C,D];rfl) rfl ?_;refine⟨_,rfl,⟨_,_,_,_,_,rfl⟩,fin [] (c.drop.agS _ _ _ _),λi=>?_⟩;show[_,_,_,_]=anA (m.name.1,(mO (m.name.2.take wJ)).1);rw[s.J i,<- (om m).2 (jJ (ER i))];rfl⟩
theorem aaC(p d:Nat):VD 151 p d eC (λa=>Du a.1) sh2:=⟨call151,vF,λo w m L i=>by
 have⟨q,j,fin⟩:=i.start;go_in;go_wp2_with fail;refine(j.new #[θ ⟨#[]⟩,ι κ 0] 110).name.mono ?_;rintro A B ⟨rfl,e⟩;have r:cond (decide (aV m.name.2.tk=28)) m.name.2.next m.name.2=(eC m).2:=by
  unfold eC;rw[arS e.wf]
  cases decide (aV m.name.2.tk=28)<;>rfl
 have f:=(e.new #[θ (dc m.tk),ι κ m.place] 110).IC 28 _ rfl;rw[r]at f;have C:¬(B.heap.size=w.heap.size):=by have:=e.at;omega
 generalize decide (aV m.name.2.tk=28)=k at f;go_wp2_with fail;refine f.mono ?_;rintro A G ⟨rfl,c⟩;have⟨D,E⟩:=fN c.box;have⟨u,y⟩:=fN c.drop.box;have z:=c.drop.fz;go_wp2
 (try simp only[Exit.inBlock,Exit.then])
 refine aD (v:=_) (by simp[results,results151,go_sem,u,y];rfl) rfl ?_;refine⟨_,rfl,⟨_,_,rfl⟩,fin [] (c.drop.YQ _ _),λs=>?_⟩;show _=Du m.name.1;rw[<- (om m).2 (back (m:=m.name.2) (by unfold eC;simp only;split;exact dD;exact ae _) s)];rfl⟩
theorem Pr.join(e:Pr o w p d m L):Calls prog 149 #[π (σ ⟨p,0,ν⟩)] w λc w'=>
 c=τ (.tuple #[])/\Pr o w' p d ((m.name.2.take zj).name.2.take wJ).name.2 L:=by have⟨q,f,fin⟩:=e.start;go_in;go_wp2_with fail;refine f.name.mono ?_;rintro c i ⟨rfl,S⟩;go_wp2_with fail;refine(S.sign iOn).mono ?_;rintro c j ⟨rfl,S⟩;go_wp2_with fail;refine S.name.mono ?_;rintro c k ⟨rfl,S⟩;go_wp2_with fail;refine(S.sign iEq).mono ?_;rintro c r ⟨rfl,S⟩;go_wp2_with fail;refine S.name.mono ?_;rintro c s ⟨rfl,S⟩;go_wp2;go_end0;exact⟨rfl,fin [] S⟩
end
theorem aaD(m:Mode):(jX m).1.name=m.name.1:=by rw[Bk];split<;>rfl
theorem aaE(m:Mode):(jX m).2.len<=(mL m).len:=by rw[Bk];split;{exact ag (take_len _ _) (C0 m)};exact ag (take_len _ _) (ag (dW _) (C0 m))
theorem aeT(p d:Nat):VD 172 p d jX (λa=>Du a.name) sh2:=⟨call172,MV,λo w m L N=>by
 have⟨q,T,fin⟩:=N.start;go_in;go_wp2_with fail;refine(T.new #[θ ⟨#[]⟩,ι κ 0] 110).name.mono ?_;rintro i Y ⟨rfl,C⟩;have fy:¬(Y.heap.size=w.heap.size):=by have:=C.at;omega
 go_wp2_with fail;refine((C.new #[θ (dc m.tk),ι κ m.place] 110).sign iEq).mono ?_;rintro i w2 ⟨rfl,y⟩
 change Pr _ _ _ _ (mL m) _ at y;have j:=au (aeQ y.wf);have B:=au (λ(f:(qi m).tk.wf)=>aeR y.wf f);have G:=y.take;generalize aV (mL m).tk=c at G j B;rcases(show c=45\/c=46\/c=47\/c=48\/(c≠45/\c≠46/\c≠47/\c≠48)by omega)with rfl|rfl|rfl|rfl|⟨f,I,K,M⟩
 all_goals
  (try
    have Z:((c:Int)==45)=false:=Ft f;have e2:((c:Int)==46)=false:=Ft I;have e3:((c:Int)==47)=false:=Ft K;have e4:((c:Int)==48)=false:=Ft M;have e5:((c:Int) != 45)=true:=by rw[jD];omega
    have P:=au f)
  first
   |replace j:=au (j.J.trans (bU (by omega)))
   |replace j:=au (j.J.trans (aN (by omega)))
  (try clear f I K M)
  go_wp2_with fail;refine G.mono ?_;rintro i w3 ⟨rfl,D⟩;go_wp2_with fail
  first
   | ((with_reducible refine eu ((D.new _ _).refuse _ _ _ _) ?_)
      rintro i w4 ⟨rfl,E⟩;rw[qo]at E;go_wp2_with fail;refine(E.sign J7).mono ?_)
   |refine((D.new _ _).sign J7).mono ?_
  rintro i w5 ⟨rfl,e⟩;have U:∀A:Mode,A=(if O6 (mL m)then(mL m).next else(mL m).wrong 2)->A.take cq=qi m:=λA f=>by rw[f];rfl
  rw[U _ (by rw[j.J];rfl)]at e;have⟨t0,t1,t2,t3⟩:=dB e.box;have Q:=au (B.J e.wf);obtain⟨u,H⟩:∃u,decide (aV (qi m).tk=12)=u:=⟨_,rfl⟩;have R:=e.is1 12 u H;have O:Hid (∀c,XY c (qi m)=if c=45/\u=true then qi m else(qi m).name.2):=au λc=>by rw[<- H];unfold XY;simp only[decide_eq_true_eq]
  cases u
  all_goals
   go_wp2_with fail
   (try
     (with_reducible refine eu R ?_)
     rintro i w6 ⟨rfl,e⟩;go_wp2_with fail)
   (try
     (with_reducible refine eu e.name ?_)
     rintro i w7 ⟨rfl,e⟩;go_wp2_with fail)
   refine(e.sign Fv).mono ?_;rintro i w8 ⟨rfl,r⟩;have k:=Q.J;rw[O.J]at k
   first
    |rw[aE (λs=>absurd s.1 (by decide))]at k
    |rw[aE (λs=>absurd s.1 P.J)]at k
    |rw[aE (λs=>absurd s.2 (by decide))]at k
    |rw[aF ⟨by trivial,by trivial⟩]at k
   rw[k]at r;have⟨n0,n1⟩:=fN r.drop.box;have⟨W,X⟩:=fN r.drop.drop.box;have z:=r.drop.drop.fz;go_wp2
   (try simp only[Exit.inBlock,Exit.then])
   refine aD (v:=_) (by simp[results,results172,go_sem,W,X];rfl) rfl ?_;refine⟨_,rfl,⟨_,_,rfl⟩,fin [] (r.drop.drop.YQ _ _),λV=>?_⟩;show _=Du (jX m).1.name;rw[aaD,<- (om m).2 (jJ (back (aaE m) V))];rfl⟩
section
variable {o:ω×Option Nat} {w w':ω} {p d:Nat} {m:Mode} {L:List It}
theorem Pr.group(f:Pr o w p d m L):Calls prog 150 #[π (σ ⟨p,0,ν⟩)] w λe w'=>
 e=τ (.tuple #[])/\Pr o w' p d (dk jX ((C4 m).2.take iR)).2 L:=by have⟨q,k,fin⟩:=f.start;obtain⟨c,i⟩:∃c,decide (aV m.tk=15)=c:=⟨_,rfl⟩;have r:(cond c m (jQ m).2).take iR=(C4 m).2.take iR:=(by rw[<- (aiz f.wf).1,<- i];unfold XZ;by_cases s:aV m.tk=15<;>simp[s]);have j:=k.is1 15 c i;rw[<- r];go_in;go_wp2_with fail;refine j.mono ?_;rintro e D ⟨rfl,S⟩;cases c;(case' false=>go_wp2_with fail;refine S.names.mono ?_;rintro e E ⟨y,n,B,xs,rfl,S,-⟩;replace S:=S.drop);all_goals go_wp2_with fail;refine(S.sign RY).mono ?_;rintro e G ⟨rfl,S⟩;go_wp2_with fail;refine(lists.1 _ _ rfl rfl S (aeT p d)).mono ?_;rintro e H ⟨A,u,C,I,rfl,S,-⟩;go_wp2;go_end0;exact⟨rfl,fin [] S⟩
end
theorem MW(m:Mode):(cH m).2.len<=m.len:=by unfold cH;split;{exact ag (Qc _) dD};split;{exact ag (oP Gk _) dD};split;{exact ag (dW _) (ag (take_len _ _) (ag (dW _) (ag (take_len _ _) (ag (dW _) dD))))};split;{refine ag (oP MV _) (ag (take_len _ _) ?_);split;{exact ag (oP dW _) dD};exact dD};split;{exact ag (oP vF _) dD};simp only;split;{exact ag dD (take_len _ _)};exact ag (rT _ 2) (take_len _ _)
theorem anB{m:Mode}(hw:m.tk.wf):m.is me=decide (aV m.tk=14):=lu (i:=9) hw rfl (by decide)
section
variable {m:Mode} (hw:m.tk.wf)
include hw
theorem uf:m.is dR=decide (aV m.tk=22):=fG (i:=1) hw rfl (by decide)
theorem J8:m.is qD=decide (aV m.tk=23):=fG (i:=2) hw rfl (by decide)
theorem J9:m.is tK=decide (aV m.tk=24):=fG (i:=3) hw rfl (by decide)
theorem H6:m.is pW=decide (aV m.tk=26):=fG (i:=5) hw rfl (by decide)
theorem O7:m.is qE=decide (aV m.tk=27):=fG (i:=6) hw rfl (by decide)
theorem O8:m.is dJ=decide (aV m.tk=29):=fG (i:=8) hw rfl (by decide)
theorem RZ(c:aV m.tk=22):cH m=({ bare dR m.place with exprs:=[(mO m.next).1] },(mO m.next).2):=by unfold cH;rw[uf hw,bU c];rfl
theorem aaF(c:aV m.tk=23):cH m=({ bare qD m.place with names:=(dk fA m.next).1.map (·.1),exprs:=(dk fA m.next).1.map (·.2) },(dk fA m.next).2):=by unfold cH;rw[uf hw,J8 hw,bU c,aN (by omega)];rfl
theorem VR(c:aV m.tk=24):(cH m).2=((m.next.name.2.take zj).name.2.take wJ).name.2:=by unfold cH;rw[uf hw,J8 hw,J9 hw,bU c,aN (show¬aV m.tk=22 by omega),aN (show¬aV m.tk=23 by omega)];rfl
theorem R5(c:aV m.tk=26):(cH m).2=(dk jX ((C4 m.next).2.take iR)).2:=by unfold cH;rw[uf hw,J8 hw,J9 hw,H6 hw,bU c,aN (show¬aV m.tk=22 by omega),aN (show¬aV m.tk=23 by omega),aN (show¬aV m.tk=24 by omega)];rfl
theorem R8(c:aV m.tk=27):(cH m).2=(dk eC m.next).2:=by unfold cH;rw[uf hw,J8 hw,J9 hw,H6 hw,O7 hw,bU c,aN (show¬aV m.tk=22 by omega),aN (show¬aV m.tk=23 by omega),aN (show¬aV m.tk=24 by omega),aN (show¬aV m.tk=26 by omega)];rfl
def aaG(m:Mode):eZ×Mode:=match m.next.tk with
 |.num n=>({ bare dJ m.place with n:=n },m.next.next)
 |_=>(bare dJ m.place,m.next.wrong 2)
theorem R9(c:aV m.tk=29):cH m=aaG m:=by
 have e:m.take dJ=m.next:=by unfold Mode.take;rw[O8 hw,bU c];rfl
 unfold cH;rw[uf hw,J8 hw,J9 hw,H6 hw,O7 hw,e,aN (show¬aV m.tk=22 by omega),aN (show¬aV m.tk=23 by omega),aN (show¬aV m.tk=24 by omega),aN (show¬aV m.tk=26 by omega),aN (show¬aV m.tk=27 by omega)];rfl
theorem VT(e:¬aV m.tk=22)(f:¬aV m.tk=23)(i:¬aV m.tk=24)(j:¬aV m.tk=26)(k:¬aV m.tk=27)(r:¬aV m.tk=29):(cH m).2=m.wrong 2:=by
 have s:m.take dJ=m.wrong 2:=by unfold Mode.take;rw[O8 hw,aN r];rfl
 unfold cH;rw[uf hw,J8 hw,J9 hw,H6 hw,O7 hw,s,aN e,aN f,aN i,aN j,aN k];obtain⟨a,b,c⟩:=xS m 2;rw[c];rfl
end
theorem aeU(m:Mode):(if aV m.next.tk=3 then m.next.next else m.next.wrong 2)=(aaG m).2/\((aaG m).2.alive->(aaG m).1={ bare dJ m.place with n:=gP m.next.tk }):=by unfold aaG;cases hk:m.next.tk with|num n=>exact⟨rfl,λ_=>rfl⟩|stop=>exact⟨rfl,λc=>absurd c (dz _ 2)⟩|bad=>exact⟨rfl,λc=>absurd c (dz _ 2)⟩|name t=>exact⟨rfl,λc=>absurd c (dz _ 2)⟩|str t=>exact⟨rfl,λc=>absurd c (dz _ 2)⟩|sign t=>(exact⟨aE (by simp only[aV];omega),λc=>absurd c (dz _ 2)⟩)|word t=>exact⟨aE (by simp only[aV];omega),λc=>absurd c (dz _ 2)⟩
theorem VU{m:Mode}(hw:m.tk.wf)(f:¬aV m.tk=22)(i:¬aV m.tk=23)(j:¬aV m.tk=29):(cH m).2.alive->jN (cH m).1.word dR=false/\jN (cH m).1.word qD=false/\jN (cH m).1.word dJ=false:=by
 have k:m.take dJ=m.wrong 2:=by unfold Mode.take;rw[O8 hw,aN j];rfl
 unfold cH;rw[uf hw,J8 hw,k,aN f,aN i];obtain⟨a,b,e⟩:=xS m 2;rw[e];cases m.is tK with|true=>(exactλ_=>⟨show jN tK dR=false by decide,show jN tK qD=false by decide,show jN tK dJ=false by decide⟩)|false=>cases m.is pW with|true=>(exactλ_=>⟨show jN pW dR=false by decide,show jN pW qD=false by decide,show jN pW dJ=false by decide⟩)|false=>cases m.is qE with|true=>(exactλ_=>⟨show jN qE dR=false by decide,show jN qE qD=false by decide,show jN qE dJ=false by decide⟩)|false=>exactλc=>absurd c (λc=>c)
inductive O9 (w:ω) (base:Nat):υ->eZ->Prop
 | aeV (e:Ex) (pl q:Nat):O9 w base (.iface 261 (χ #[ι κ pl,pz e])) { bare dR q with exprs:=[(e,pl)] }
 | arT (v:υ) (rs:List (Nm×(Ex×Nat))) (q:Nat):w.ownsRow base 288 4 v rs.length (arR rs)->O9 w base (.iface 291 (χ #[v])) { bare qD q with names:=rs.map (·.1),exprs:=rs.map (·.2) }
 | aeW (n q:Nat):O9 w base (.iface 293 (χ #[ι κ n])) { bare dJ q with n:=n }
 | aeX (s:eZ) (h:jN s.word dR=false/\jN s.word qD=false/\jN s.word dJ=false):O9 w base (.iface 295 (χ #[ι κ s.pl])) s
def VW(R:List It)(v:υ)(s:eZ):Prop:=∀w base,(∀a∈R,IB base w a)->O9 w base v s
theorem VW.more{c e:List It}{v:υ}{f:eZ}(i:VW c v f)(j:∀a∈c,a∈e):VW e v f:=λw b r=>i w b λa k=>r a (j a k)
theorem aaH{e:Type}{c:e->List υ}{z:Nat}(f:∀a,(c a).length=z)(l:List e):(l.flatMap c).length=l.length*z:=by induction l with|nil=>simp|cons a l i=>rw[iI,aw,f,i,aX,q6];omega
section
variable {o:ω×Option Nat} {w w':ω} {p d:Nat} {m:Mode} {L:List It}
theorem rY{e:Type}{c:e->List υ}{z n:Nat}{t:TypeId}{v:υ}{l:List e}(f:w.ownsRow i t z v n (l.flatMap c))(j:∀a,(c a).length=z)(k:0<z):n=l.length:=by have:=f.1;rw[aaH j]at this;exact(Nat.eq_of_mul_eq_mul_right k this).symm
theorem Pr.act(O:Pr o w p 0 m.next L)(hw:m.tk.wf):Calls prog 118 #[π (σ ⟨p,0,ν⟩),χ #[ι κ (aV m.tk),ι κ m.place,θ (dc m.tk),ι κ (gP m.tk)]] w λj w'=>
 ∃t K B,j=τ (.iface t K)/\Pr o w' p 0 (cH m).2 (B++L)/\((cH m).2.alive->VW B (.iface t K) (cH m).1):=by
 obtain⟨q,Q,fin⟩:=O.start;obtain⟨c,i⟩:=nm (aV m.tk);rw[<- i];have S:=Q.new #[ι κ c,ι κ m.place,θ (dc m.tk),ι κ (gP m.tk)] 106;have hf:=λw=>(wN (aV m.next.tk) m.next.place (dc m.next.tk) (gP m.next.tk) w).2.2;have N:=lists.1 _ _ rfl rfl S (aaC p 0);have A:=S.must 3 _ rfl;have C:cond (decide (aV m.next.tk=3)) m.next.next (m.next.wrong 2)=(aaG m).2:=(by rw[<- (aeU m).1];by_cases r:aV m.next.tk=3<;>simp[r]);rw[C]at A;clear C;rcases(show c=22\/c=23\/c=29\/c=24\/c=26\/c=27\/(¬c=22/\¬c=23/\¬c=24/\¬c=26/\¬c=27/\¬c=29)by omega)with rfl|rfl|rfl|rfl|rfl|rfl|⟨r,D,E,G,H,I⟩
 all_goals
  (try
    have Y:((c:Int)==22)=false:=Ft r;have Z:((c:Int)==23)=false:=Ft D;have e3:((c:Int)==24)=false:=Ft E;have e4:((c:Int)==26)=false:=Ft G;have e5:((c:Int)==27)=false:=Ft H;have e6:((c:Int)==29)=false:=Ft I)
  first
   |have f:=au (RZ hw i.symm)
   |have f:=au (aaF hw i.symm)
   |have f:=au (R9 hw i.symm)
   |have f:=au (VR hw i.symm)
   |have f:=au (R5 hw i.symm)
   |have f:=au (R8 hw i.symm)
   |have f:=au (VT hw (by omega) (by omega) (by omega) (by omega) (by omega) (by omega))
  (try have P:=au (VU hw (by omega) (by omega) (by omega)));(try clear r D E G H I);clear i;go_in;go_wp2_with fail
 {refine S.formula.mono ?_;rintro j M ⟨t,v,rfl,e,s⟩;have u:=au s;clear s;go_wp2_with fail;go_ret;rw[f.J];exact⟨_,_,[],rfl,fin [] e,λk _ _ _=>by rw[u.J k];exact .aeV _ _ _⟩};{refine(lists.2.2.1 _ _ rfl rfl S (VQ p)).mono ?_;rintro j M ⟨V,n,W,xs,rfl,e,s⟩;have u:=au s;clear s;go_wp2_with fail;go_ret;rw[f.J];refine⟨_,_,[_],rfl,fin [_] e,λk X b r=>?_⟩;have T:=u.J k;subst T;have U:=rY (l:=(dk fA m.next).1) e.row (λ_=>rfl) (by decide);exact .arT _ _ m.place (U ▸ r _ (.head _))};{refine A.mono ?_;rintro j M ⟨rfl,e⟩;go_wp2_with fail;go_ret;rw[f.J];exact⟨_,_,[],rfl,fin [] e,λk _ _ _=>by rw[(aeU m).2 k];exact .aeW _ _⟩};all_goals
  first
   | ((with_reducible refine eu S.join ?_);rintro j y ⟨rfl,e⟩)
   | ((with_reducible refine eu S.group ?_);rintro j y ⟨rfl,e⟩)
   | ((with_reducible refine eu N ?_);rintro j y ⟨V,n,W,xs,rfl,R,-⟩;have e:=R.drop)
   | ((with_reducible refine eu (S.refuse _ _ _ _) ?_);rintro j y ⟨rfl,e⟩;rw[qo]at e)
  rw[<- f.J]at e;obtain⟨y0,y1,y2,y3⟩:=dB e.box;go_wp2_with fail;go_ret;exact⟨_,_,[],rfl,fin [] e,λk _ _ _=>by rw[<- JI m];exact .aeX _ (P.J k)⟩
theorem Pr.stage(s:Pr o w p 0 m L):Calls prog 89 #[π (σ ⟨p,0,ν⟩)] w λr w'=>
 ∃t i c,r=τ (χ #[ι κ m.place,.iface t i])/\Pr o w' p 0 (cH m).2 (c++L)/\((cH m).2.alive->VW c (.iface t i) (cH m).1):=by
 obtain⟨q,E,fin⟩:=s.start;go_in;go_wp2_with fail;refine(E.new #[ι κ 0,.nilIface] 193).take.mono ?_;rintro r j ⟨rfl,u⟩;obtain⟨A,f⟩:=nm (j.alloc (ξ #[ι κ (aV m.tk),ι κ m.place,θ (dc m.tk),ι κ (gP m.tk)] 106 (0,0)));have y:Pr (w,q) A.drew p 0 m.next [.inl (j.heap.size,#[ι κ (aV m.tk),ι κ m.place,θ (dc m.tk),ι κ (gP m.tk)],106),.inl (w.heap.size,#[ι κ 0,.nilIface],193)]:=by rw[f];exact(u.new _ _).drew
 have D:=y.act s.wf;obtain⟨M,N,O,P⟩:=dB (show A.heap[j.heap.size]?=_ from y.box);have K:¬(j.heap.size=w.heap.size):=by have:=u.at;omega
 go_wp2_with fail;have I:=au f;rw[<- f];clear f;go_region_with((with_reducible refine eu D ?_);rintro r V ⟨t,i,c,rfl,e,B⟩;replace e:=e.perm pg;obtain⟨Q,R,T,U⟩:=dB e.box;have k:=e.drop.perm pg;obtain⟨G,H⟩:=fN k.box;have z:=k.fz;have C:=au B;clear B);all_goals (try go_wp2_with fail);(try simp only[Exit.inBlock,Exit.then]);refine aD (v:=_) (by simp[results,results89,go_sem,G,H];rfl) rfl ?_;exact⟨t,i,c,rfl,fin c ((k.YQ _ _).perm pg.symm),C.J⟩
end
theorem Tryz.VX:(prog.info? 193).map (λc=>(c.zero,c.size,c.bytes))=σ (σ (χ #[ι κ 0,.nilIface]),2,24):=by kernel_rfl
theorem Tryz.Si:(prog.info? 174).map (λc=>(c.zero,c.size,c.bytes))=σ (σ (χ #[ι κ 0,ψ ν 0 0]),2,32):=by kernel_rfl
section
variable {o:ω×Option Nat} {w w':ω} {p d:Nat} {m:Mode} {L:List It}
theorem Pr.lies{t:TypeId}{z n bytes:Nat}{xs:List υ}{cs:Array υ}(S:Pr o w p d m (.inr (ψ c n i,u,z,n,xs)::L))
 {Y:Array Oper} {e:Oper} {a:Act} {A:Act->ω->Prop} {C:Exit->Act->ω->Prop} {B:Prop} (M:e.guard=ν) (y x:Operand) (k:e.op=.call { callee:=.builtin .append,args:=#[y,x],argTypes:=#[t,t] })
 (P:prog.underlying t=σ (.slice u)) (H:(prog.info? u).map (λs=>(s.zero,s.size,s.bytes))=σ (σ r,z,bytes)) (T:r.cells.size=z) (R:0<z) (j:bytes<=1000) (hn:n<=1000)
 (O:a.eval y=ψ c n i) (Q:a.eval x=ψ (σ ⟨w.heap.size,0,ν⟩) 1 1) (I:cs.size=z) (G:∀Z∈cs.toList,Z.oneCell'=true)
 (E:∀g cap w',Pr o w' p d m (.inr (ψ (σ ⟨g,0,ν⟩) (n+1) cap,u,z,n+1,xs++cs.toList)::L)->A (a.put e.dst (ψ (σ ⟨g,0,ν⟩) (n+1) cap)) w'):if Region.wanted e (yielded Y a.tmps)=true then Oper.wp prog e a (w.alloc (ξ cs u)) A C else B:=by obtain⟨U,N,V,W,X⟩:=jc H;have f:=S.alloc (ξ cs u);refine step_append_lies _ M y x t k o.1.heap.size u U r z bytes P N V W X T R _ n xs O f.row ⟨w.heap.size,0,ν⟩ 1 1 cs.toList Q (by simpa using I) (World.news_of_block (ak w (ξ cs u))) G (by decide) (by unfold maxLen;omega) ?_ f.fr.size _ rfl ?_;{have:(n+1)*bytes<=1001*1000:=lL (by omega) j;omega};intro g cap w' k K j _;exact E g cap w' (f.app k K (j.imp id (λD=>nN D.symm)))
theorem Pr.query(W:Pr o w p 0 m L)(G:Nat)(f:eZ):Calls prog 65 #[π (σ ⟨p,0,ν⟩),ι κ G] w λA w'=>
 ∃j n k i e c,A=τ (.iface 113 (χ #[ι κ G,θ (dc m.tk),ι κ m.place,ψ j n k]))/\Pr o w' p 0 (cO m.name.2.len [f] m.name.2).2 (.inr (ψ j n k,193,2,n,uH i)::(c++L))/\
   (cO m.name.2.len [f] m.name.2).1=f::e/\((cO m.name.2.len [f] m.name.2).2.alive->Each (λa s=>a.1=s.pl/\VW c a.2 s) i e):=by
 obtain⟨q,P,fin⟩:=W.start;have Mn:=P.ani;have FJ:=dW m;go_in;go_wp2_with fail;refine P.name.mono ?_;rintro A w1 ⟨rfl,S1⟩;have S2:=(S1.nil 193 2).new #[ι κ G,θ (dc m.tk),ι κ m.place,ψ ν 0 0] 113;go_wp2_with fail;go_loopw[] (λwr=>∃(m':Mode) (j:Option Addr) (n k:Nat) (i:List (Nat×υ)) (e:List eZ) (c:List It) (y:Nat),Pr (w,q) wr p 0 m' (.inl (w1.heap.size,#[ι κ G,θ (dc m.tk),ι κ m.place,ψ j n k],113)::.inr (ψ j n k,193,2,n,uH i)::c)/\n+m'.len<=400/\m'.len<=y/\Hid (cO y (f::e) m'=cO m.name.2.len [f] m.name.2)/\Hid (m'.alive->Each (λa s=>a.1=s.pl/\VW c a.2 s) i e)) (λwr=>MU wr p);case atStart=>exact⟨_,_,0,_,[],[],[],_,S2,by omega,ae _,au rfl,au λ_=>trivial⟩
 case round=>
  obtain⟨m',j,n,k,i,e,c,y,B,hn,hf,N,O⟩:=hrel;have I:=anB B.wf;have Y:=au B.left;obtain⟨E,K⟩:∃E,decide (aV m'.tk=14)=E:=⟨_,rfl⟩;rw[K]at I;have Q:=B.IC 14 E K;have H:=au I;clear K I;cases E;{go_wp2_with fail;refine Q.mono ?_;rintro A w2 ⟨rfl,r⟩;obtain⟨c0,c1,c2,c3⟩:=dB r.box;go_wp2_with fail;go_ret;have aa:=(zD H.J).symm.trans N.J;rw[<- aa];exact⟨j,n,k,i,e,c,rfl,@fin _ _ _ (.inr _::c) [] (by simpa using r.drop),rfl,O.J⟩}
  obtain⟨qB,ab⟩:=B.goes H.J;obtain⟨D,rfl⟩:∃D,y=D+1:=⟨y - 1,by omega⟩;have xE:=au (show cO D (f::(e++[(cH m'.next).1])) (cH m'.next).2=cO m.name.2.len [f] m.name.2 from FI N.J H.J);have ac:=MW m'.next;have Ts:=au (JI m'.next);go_wp2_with fail;refine Q.mono ?_;rintro A w2 ⟨rfl,r⟩
  change Pr _ _ _ _ m'.next _ at r;have V:=r.drew.stage;have c3:=(dB r.box).2.2.2;go_wp2_with fail;go_region_law(first
   | (refine kC rfl 89 _ _ rfl call89 #[π (σ ⟨p,0,ν⟩)] (by first|(simp[Act.eval];done)|(simp[Act.eval,Act.put];done)|rfl) _ V ?_;rintro A w4 ⟨t,U,Z,rfl,u,R⟩;refine⟨_,rfl,?_⟩;replace u:=((u.perm pg).perm (pg.cons _)).perm (.swap _ _ _);have u3:=(dB u.drop.box).2.2.2;have u4:=(dB (u.alloc (ξ #[ι κ m'.next.place,.iface t U] 193)).drop.box).2.2.2;have X:=au R;clear R)
   | (refine u.lies rfl _ _ rfl underlying111 Tryz.VX rfl (by decide) (by decide) (by omega) (by simp[Act.eval]) (by simp[Act.eval]) rfl (by simp[Value.oneCell'];done) ?_;intro g cap w5 C;have k3:=(dB C.drop.box).2.2.2;have kf:=C.drop.fz 3))
  all_goals (try go_wp2_with fail);go_roundw;(case rel=>refine⟨_,σ ⟨g,0,ν⟩,n+1,cap,i++[(m'.next.place,.iface t U)],e++[(cH m'.next).1],Z++c,D,?_,by omega,by omega,xE,au λha=>?_⟩;{rw[IJ];exact(C.perm (.swap _ _ _)).put 3 _};exact((O.J qB).mono (λa _ s T=>⟨T.1,T.2.more λx M=>List.mem_append_right _ M⟩)).snoc ⟨Ts.J.symm,(X.J ha).more λx M=>eF _ M⟩);case measure=>rw[((C.perm (.swap _ _ _)).put 3 _).left,Y.J];omega
end
theorem aeY{l:List UInt8}(i:0<(ByteArray.mk ⟨l⟩).size)(y:dZ ⟨⟨l⟩⟩ 0 i≠0):(ByteArray.mk ⟨l⟩).extract 0 (dZ ⟨⟨l⟩⟩ 0 i)∈gd:=by
 have r:gd.findIdx (λc=>Lib.hasPrefix l c.data.toList)<gd.length:=by
  apply iA;intro D;apply y;refine L5 (λe s j=>?_) i;have C:e<gd.length:=(aj.mp j).1;have f:=List.not_of_lt_findIdx (p:=λc=>Lib.hasPrefix l c.data.toList) (xs:=gd) (i:=e) (by omega);have k:gd[e]=s:=(aj.mp j).2;rw[k]at f;simpa using f
 have A:=tg (p:=λ(c:ByteArray)=>Lib.hasPrefix l c.data.toList) (xs:=gd) (w:=r);have u:=Iu (k:=gd.findIdx (λc=>Lib.hasPrefix l c.data.toList)) (af r) A (λe s j B=>by
  have f:=List.not_of_lt_findIdx (p:=λc=>Lib.hasPrefix l c.data.toList) (xs:=gd) (i:=e) j;have k:gd[e]'(by omega)=s:=(aj.mp B).2;rw[k]at f;simpa using f) i
 rw[u.1,u.2.1];exact cF r
theorem aiA(S:ByteArray)(c:Nat)(e:c<S.size)(j:dZ S c e≠0):S.extract c (c+dZ S c e)∈gd:=by
 have f:0<(S.extract c S.size).size:=by rw[lY];omega
 have k:=Iz S c e f;have i:=wM S c 0 (dZ S c e);rw[iZ]at i;rw[<- i,<- k];rw[<- k]at j;exact aeY (l:=(S.extract c S.size).data.toList) f j
theorem lex_wf(S:ByteArray)(c:Nat)(e:c<S.size):(ez S c e).1.wf:=by rw[ez];split;{simp only;split;{trivial};split;{rename_i hw;obtain⟨k,j,f⟩:=oZ.mp hw;rw[kA]at f;show _∈cK;rw[f];exact j};trivial};split;{simp only;split;{trivial};rename_i i;show mN _<=_;omega};split;{simp only;split;{split<;>trivial};trivial};simp only;split;{trivial};rename_i i;exact aiA S c e i
theorem aiB(S:ByteArray)(e:Nat):∀t∈dv S e,t.k.wf:=by
 induction hn:S.size - e using Nat.strongRecOn generalizing e with
 |_ n j=>
  rw[dv];split
  .rename_i f;split;{intro t c;simp at c;subst c;trivial}
   rename_i i;have k:=eP S bS e;have r:=(oF S (aP S bS e) f (by simpa using i)).1;intro t c;rcases bq.mp c with rfl|c
   {exact lex_wf S _ f};exact j (S.size - (ez S (aP S bS e) f).2) (by omega) _ rfl t c
  intro t c;simp at c;subst c;trivial
theorem aeZ(S:ByteArray)(e:Nat):∀t,(dv S e).getLast?=σ t->t.k.ends=true:=by induction hn:S.size - e using Nat.strongRecOn generalizing e with|_ n r=>rw[dv];split;{rename_i f;split;{intro t c;simp at c;subst c;rfl};rename_i k;have s:=eP S bS e;have u:=(oF S (aP S bS e) f (by simpa using k)).1;intro t c;have j:=AU S (ez S (aP S bS e) f).2;rw[List.getLast?_cons]at c;cases hl:(dv S (ez S (aP S bS e) f).2).getLast? with|none=>exact absurd (List.getLast?_eq_none_iff.mp hl) j|some i=>rw[hl]at c;have:i=t:=(by simpa using c);subst this;exact r (S.size - (ez S (aP S bS e) f).2) (by omega) _ rfl i hl};intro t c;simp at c;subst c;rfl
theorem nu.begin{w:ω}{p:Nat}{S:ByteArray}{v:υ}(i:S.size<=300)(f:T3 w p ⟨v,0,0,0,0⟩)(e:w.ownsRow 0 106 4 v (dv S 0).length (Ct (dv S 0)))(c:v.ownBlock≠σ p):nu w p ⟨v,0,0,0,0⟩ (Mode.of (dv S 0)) (dv S 0):=by have j:=D7 S 0 (aI _);refine⟨f,e,c,?_,by omega,aiB S 0,aeZ S 0⟩;cases ht:dv S 0 with|nil=>exact absurd ht (AU S 0)|cons t k=>exact⟨rfl,rfl⟩
