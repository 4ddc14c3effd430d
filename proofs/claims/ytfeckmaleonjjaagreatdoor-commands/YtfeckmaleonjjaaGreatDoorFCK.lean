import Derived.Test.YtfeckmaleonjjaaGreatDoorFAE
import Derived.Test.YtfeckmaleonjjaaGreatDoorFCJ
set_option maxHeartbeats 0
set_option maxRecDepth 100000
namespace Go.Proofs.YtfeckmaleonjjaaGreatDoor
open Go.World renaming ownsRow→Φ
open Go.World renaming cell?→Ξ
open Go.Value renaming ownBlock→Ω
open List renaming length→Λ
open Go.RowKit
open _root_.Go.Proofs.Tryz
open Option renaming some→σ,none→ν
open Go.IntKind renaming i64→κ
open Go.Ending renaming returned→τ
open Go.Obj renaming cells→ξ
open Go renaming World→ω,Value→υ
open Go.RowKit renaming Below→δ
open Go.Value renaming int→ι,string→θ,slice→ψ,pointer→π,agg→χ
variable{i f:Nat}{r y j:υ}{s:Γ}{u:TypeId}{k:ω}{c:Option Addr}{e:Δ Nat}
def MI(w:ω):Prop:=∃m,Ξ w ⟨7,0,ν⟩=σ (ι κ m)
theorem MI.aU{w w':ω}(c:MI w)(j:δ i w w')(f:7<i):MI w':=by obtain⟨m,e⟩:=c;exact⟨m,(j.cell (p:=⟨7,0,ν⟩) f).trans e⟩
theorem Below.drewN{a w:ω}(c:δ i a w)(n:Nat):δ i a (w.drewN n):=⟨c.os,c.tape,c.output,c.size,c.block⟩
theorem GJ(c:Γ)(w:ω)(hT:c.size<=300)(P:0<c.size)(Q:MI w)(hw:7<w.heap.size):Calls prog 101 #[θ c] w λs w'=>
 s=τ (.tuple #[IQ (rN c).1 0,ι κ (KV (rN c))])/\δ w.heap.size w w':=by
 obtain⟨k,B⟩:=nm (c.extract 1 c.size);have ab:∀w,(Instr.slice 9 (θ c) (σ (ι κ 1)) ν ν).run prog w=.ok (θ k) w:=λw=>by rw[B];exact uW w 9 c underlying9 1 P
 have i:=ac8 c P;rw[<- B]at i;have O:k.size<=300:=by rw[B,dJ];omega
 have C:δ w.heap.size w (w.alloc (vF 0 0 ⟨#[]⟩ 0)):=(aj _ _).alloc (ae _) _;obtain⟨mx,M⟩:=Q.aU C hw;have hcut:=Tryz.strings_Cut k ⟨#[39]⟩ mx _ (by omega) M;have E:(Lib.cut k.data.toList [39]).1.length<=300:=(by unfold Lib.cut;split;{exact ay (List.length_take_le' _ _) (by rw[qH];exact O)};rw[qH];exact O);obtain⟨q,I⟩:=nm (Lib.cut k.data.toList [39]);have y:Calls prog 144 #[θ k,θ ⟨#[39]⟩] (w.alloc (vF 0 0 ⟨#[]⟩ 0)) λs w'=>s=τ (.tuple #[θ ⟨q.1.toArray⟩,θ ⟨q.2.1.toArray⟩,.bool q.2.2])/\∃n,w'=(w.alloc (vF 0 0 ⟨#[]⟩ 0)).drewN n:=(by rw[I];exact hcut);rw[<- I]at i E;obtain⟨x,rest,b⟩:=q;simp only at i E y;obtain⟨e,K⟩:=nm (⟨x.toArray⟩:Γ);have N:e.size=Λ x:=by rw[K];simp[ByteArray.size]
 rw[<- K]at i y;rw[<- N]at i E;have HC:=y;have D:=ak i;have Z:=C;clear hcut y i M Q C B I K;go_in;go_wp21;refine HC.mono ?_;rintro aa Y ⟨rfl,n,X⟩;have H:δ (w.alloc (vF 0 0 ⟨#[]⟩ 0)).heap.size (w.alloc (vF 0 0 ⟨#[]⟩ 0)) Y:=(by rw[X];exact Below.drewN (aj _ _) n);have f:Y.heap[w.heap.size]?=σ (vF 0 0 ⟨#[]⟩ 0):=(H.block w.heap.size (by simp)).trans (az w _);obtain⟨R,T,U,V⟩:=kJ f;have z0:=cF f 0;have z1:=cF f 1;have z2:=cF f 2;have z3:=cF f 3;have u:=Z.trans (H.mono (by simp));have A:=ak f;clear H f X;cases b;{have r:=ak (show rN c=(.bad,0)from by rw[D.J];rfl);clear A;go_wp2;(try simp only[Exit.inBlock,Exit.then]);refine aE (by simp[results,results101,go_sem,R,T,U,V];rfl) rfl ?_;refine⟨?_,qI u (ae _) _ _ _ _⟩;rw[r.J];rfl};cases oI:uX e;{have r:=ak (show rN c=(.bad,0)from by rw[D.J,oI];rfl);clear A;go_wp2_with(go_at_call 145;refine(yE _ _).mono ?_;rintro r' w' ⟨rfl,rfl⟩);(try simp only[Exit.inBlock,Exit.then]);refine aE (by simp[results,results101,go_sem,R,T,U,V];rfl) rfl ?_;refine⟨?_,qI u (ae _) _ _ _ _⟩;rw[r.J];rfl};have r:=ak (show rN c=(.str e,e.size+2)from by rw[D.J,oI];rfl);go_wp2_with(go_at_call 145;refine(yE _ _).mono ?_;rintro r' w' ⟨rfl,rfl⟩);refine(Mp e _ (by omega)).mono ?_;rintro aa w2 ⟨rfl,G⟩;have j:w2.heap[w.heap.size]?=σ (vF 0 0 ⟨#[]⟩ 0):=(G.block w.heap.size (by have:=aA A.J;omega)).trans A.J;obtain⟨y0,y1,y2,y3⟩:=kJ j;have x0:=cF j 0;have x1:=cF j 1;have x2:=cF j 2;have x3:=cF j 3;have fM:=u.trans (G.mono u.size);clear G j;go_wp2;(try simp only[Exit.inBlock,Exit.then]);refine aE (by simp[results,results101,go_sem,y0,y1,y2,y3];rfl) rfl ?_;refine⟨?_,qI fM (ae _) _ _ _ _⟩;rw[r.J];have s:(((e.size+2:Nat)):Int)=(Λ x:Int)+2:=(by rw[N];omega);show _=Ending.returned (.tuple #[χ #[ι κ 4,ι κ 0,θ e,ι κ 0],ι κ (((e.size+2:Nat)):Int)]);rw[s]
def j7(T:Γ):Tk×Nat:=
 if h:0<T.size then(if dP T[0]then uA T else if dV T[0]then yD T else if T[0].toNat=39 then rN T else rI T h)else(.stop,0)
structure Eu (w:ω):Prop where
 spelt:Mk w
 apE:Fh w
 max:MI w
 size:12<=w.heap.size
theorem Eu.aU{w w':ω}(c:Eu w)(e:δ i w w')(f:12<=i):Eu w':=
 ⟨c.spelt.aU e (by omega),c.apE.aU e (by omega),c.max.aU e (by omega),ay c.size e.size⟩
theorem U3(c:Γ)(e:0<c.size):c.toList.isEmpty=false:=by cases hh:c.toList.isEmpty with|false=>rfl|true=>exfalso;have i:c.toList=[]:=List.isEmpty_iff.mp hh;have f:=bX c [];rw[i]at f;have j:c=bs []:=cD.mp f.symm;rw[j]at e;exact absurd e (by decide)
theorem qx(c:Γ)(w:ω)(A:c.size<=300)(k:0<c.size)(C:Eu w)(f:Tk×Nat)(e:(dP c[0]=true/\f=uA c)\/(dP c[0]=false/\dV c[0]=true/\f=yD c)\/(dP c[0]=false/\dV c[0]=false/\c[0].toNat=39/\f=rN c)\/(dP c[0]=false/\dV c[0]=false/\¬c[0].toNat=39/\f=rI c k)):Calls prog 71 #[θ c] w λH w'=>
 H=τ (.tuple #[IQ f.1 0,ι κ (KV f)])/\δ w.heap.size w w':=by
 have y:δ w.heap.size w (w.alloc (vF 0 0 ⟨#[]⟩ 0)):=(aj _ _).alloc (ae _) _;have j:=C.aU y C.size;have K:=j.size;have D:=y;have V:c.toList.isEmpty=false:=U3 c k;rcases e with⟨u,e⟩|⟨u,s,e⟩|⟨u,s,I,e⟩|⟨u,s,I,e⟩
 all_goals
  have T:jO c[0].toNat=_:=u;(try have U:lK c[0].toNat=_:=s);(try have E:((c[0].toNat:Int)==39)=true:=by rw[dR];omega);(try have E:((c[0].toNat:Int)==39)=false:=by rw[aY];omega);first
   |have i:=ak (KX c _ A j.spelt (by omega));rw[<- e]at i
   |have i:=ak (GB c _ A k s j.apE (by omega));rw[<- e]at i
   |have i:=ak (GJ c _ A k j.max (by omega));rw[<- e]at i
   |have i:=ak (KW c.data.toList _ k j.spelt (by omega));rw[show rI ⟨c.data.toList.toArray⟩ k=f from e.symm]at i
  clear e;clear y j C K;go_in;go_wp2_with(first|(go_at_call 97;refine(yA _ _).mono ?_;rintro Q w' ⟨rfl,rfl⟩)|(go_at_call 99;refine(Ak _ _).mono ?_;rintro Q w' ⟨rfl,rfl⟩));refine i.J.mono ?_;rintro X R ⟨rfl,B⟩;have r:R.heap[w.heap.size]?=σ (vF 0 0 ⟨#[]⟩ 0):=(B.block w.heap.size (by simp)).trans (az w _);obtain⟨M,N,O,P⟩:=kJ r;have Y:=cF r 0;have Z:=cF r 1;have z2:=cF r 2;have z3:=cF r 3;have G:=D.trans (B.mono (by simp));clear B r;unfold IQ;go_wp2;(try simp only[Exit.inBlock,Exit.then]);refine aE (v:=.tuple #[IQ f.1 0,ι κ (KV f)]) (by simp[results,results71,go_sem,IQ,M,N,O,P];try rfl) rfl ?_;exact⟨rfl,qI G (ae _) _ _ _ _⟩
theorem GK(w:ω):Calls prog 71 #[θ ⟨#[]⟩] w λc w'=>
 c=τ (.tuple #[IQ .stop 0,ι κ 0])/\δ w.heap.size w w':=by go_in;go_wp2;(try simp only[Exit.inBlock,Exit.then]);refine aE (v:=.tuple #[IQ .stop 0,ι κ 0]) (by simp[results,results71,go_sem,IQ,bf,dC,iQ];try rfl) rfl ?_;exact⟨rfl,(aj _ _).alloc (ae _) _⟩
theorem Jz(c:Γ)(w:ω)(j:c.size<=300)(k:Eu w):Calls prog 71 #[θ c] w λs w'=>
 s=τ (.tuple #[IQ (j7 c).1 0,ι κ (KV (j7 c))])/\δ w.heap.size w w':=by by_cases e:0<c.size;{have i:j7 c=(if dP c[0]then uA c else if dV c[0]then yD c else if c[0].toNat=39 then rN c else rI c e):=kT e;cases hl:dP c[0]with|true=>rw[i,aN hl];exact qx c w j e k _ (.inl ⟨hl,rfl⟩)|false=>rw[i,aH (by rw[hl];decide)];by_cases f:dV c[0]=true;{rw[aN f];exact qx c w j e k _ (.inr (.inl ⟨hl,f,rfl⟩))};rw[aH f];have f:dV c[0]=false:=(by simpa using f);by_cases r:c[0].toNat=39;{rw[aN r];exact qx c w j e k _ (.inr (.inr (.inl ⟨hl,f,r,rfl⟩)))};rw[aH r];exact qx c w j e k _ (.inr (.inr (.inr ⟨hl,f,r,rfl⟩)))};have i:j7 c=(.stop,0):=pD e;have u:c=⟨#[]⟩:=(by apply Ob;have:Λ c.data.toList=0:=(by rw[qH];omega);rw[ld this]);rw[i,u];exact GK w
theorem mR(S:Γ)(c:Nat):(S.extract c S.size).size=S.size - c:=by rw[dJ];omega
theorem yR(S:Γ)(f:UInt8->Bool)(c e:Nat)(i:c+e<=S.size):c+aZ (S.extract c S.size) f e=aZ S f (c+e):=by rw[Fw S f (c+e) i,Fw (S.extract c S.size) f e (by rw[mR];omega),Oa,vA];omega
theorem Bk(S:Γ)(c e:Nat)(i:c+e<S.size):(S.extract c S.size)[e]'(by rw[mR];omega)=S[c+e]:=by have f:=Qy (S.extract c S.size) e (by rw[mR];omega);rw[Oa,jA,Qy S (c+e) i]at f;exact(bh f).symm
theorem xJ(S:Γ)(c a b:Nat):(S.extract c S.size).extract a b=S.extract (c+a) (c+b):=by apply Ob;rw[iM,lf,iX,Oa,iM,lf,iX,vA];congr 1;omega
theorem JA(S:Γ)(c:Nat)(f:c<S.size)(k:0<(S.extract c S.size).size):fO (S.extract c S.size) 0 k=fO S c f:=by unfold fO;have i:(S.extract c S.size)[0]=S[c]:=Bk S c 0 f;have j:(if e:0+1<(S.extract c S.size).size then(S.extract c S.size)[0+1].toNat else 0)=(if e:c+1<S.size then S[c+1].toNat else 0):=(by by_cases e:c+1<S.size;{rw[kT e,kT (by rw[mR];omega)];exact bI UInt8.toNat (Bk S c 1 e)};rw[pD e,pD (by rw[mR];omega)]);simp only[i,j]
theorem Zh(S:Γ)(c:Nat)(e:c<S.size):(j7 (S.extract c S.size)).1=(iu S c e).1/\((iu S c e).1.ends=false->c+(j7 (S.extract c S.size)).2=(iu S c e).2):=by
 have D:0<(S.extract c S.size).size:=by rw[mR];omega
 have G:(S.extract c S.size)[0]=S[c]:=Bk S c 0 e;unfold j7;rw[kT D,G];unfold iu;by_cases r:dP S[c]=true;{rw[aN r,aN r];have i:=yR S dP c 0 (by omega);have y:=iq S dP c (by omega);have f:=xJ S c 0 (aZ (S.extract c S.size) dP 0);rw[kU]at i f;rw[i]at f;unfold uA;rw[f];simp only;by_cases C:8<aZ S dP c - c;{rw[aN C,aN (by omega)];exact⟨rfl,λe=>absurd (show true=false from e) (by decide)⟩};rw[aH C,aH (by omega)];split;{exact⟨rfl,λ_=>i⟩};exact⟨rfl,λ_=>i⟩};rw[aH r,aH r];by_cases k:dV S[c]=true;{rw[aN k,aN k];have i:=yR S dV c 0 (by omega);have y:=iq S dV c (by omega);have f:=xJ S c 0 (aZ (S.extract c S.size) dV 0);rw[kU]at i f;rw[i]at f;unfold yD;rw[f];simp only;by_cases A:19<aZ S dV c - c\/9223372036854775807<oK (S.extract c (aZ S dV c)).data.toList;{rw[aN A,aN (by omega)];exact⟨rfl,λe=>absurd (show true=false from e) (by decide)⟩};rw[aH A,aH (by omega)];exact⟨rfl,λ_=>i⟩};rw[aH k,aH k];by_cases u:S[c].toNat=39;{rw[aN u,aN u];have i:=yR S gM c 1 (by omega);have y:=iq S gM (c+1) (by omega);unfold rN;simp only;by_cases B:aZ S gM (c+1)<S.size;{have E:aZ (S.extract c S.size) gM 1<(S.extract c S.size).size:=(by rw[mR];omega);rw[kT B,kT E];have H:(S.extract c S.size)[aZ (S.extract c S.size) gM 1]=S[aZ S gM (c+1)]:=(by have:=Bk S c (aZ (S.extract c S.size) gM 1) (by omega);rw[this];congr 1);rw[H];by_cases j:S[aZ S gM (c+1)].toNat=39/\aZ S gM (c+1) - c - 1<=12;{rw[aN j,aN ⟨j.1,by omega⟩];have f:=xJ S c 1 (aZ (S.extract c S.size) gM 1);rw[i]at f;rw[f];exact⟨rfl,λ_=>by simp only;omega⟩};rw[aH j,aH (λI=>j ⟨I.1,by omega⟩)];exact⟨rfl,λe=>absurd (show true=false from e) (by decide)⟩};rw[pD B,pD (by rw[mR];omega)];exact⟨rfl,λe=>absurd (show true=false from e) (by decide)⟩};rw[aH u,aH u];unfold rI;rw[JA S c e D];simp only;by_cases s:fO S c e=0;{rw[aN s,aN s];exact⟨rfl,λe=>absurd (show true=false from e) (by decide)⟩};rw[aH s,aH s];have y:=Cj S c e;have f:=xJ S c 0 (fO S c e);rw[kU]at f;rw[f];exact⟨rfl,λ_=>rfl⟩
def CZ(l:Δ Tok):Δ υ:=l.flatMap λt=>WD t.k t.pl
theorem Zi(l:Δ Tok)(t:Tok):CZ (l++[t])=CZ l++WD t.k t.pl:=by simp[CZ]
theorem apF(f:Tk)(i:Nat):∀e∈WD f i,e.oneCell'=true:=by intro e c;simp[WD]at c;rcases c with rfl|rfl|rfl|rfl<;>rfl
theorem Tryz.Zj:(prog.info? 113).map (λc=>(c.zero,c.size,c.bytes))=σ (σ (χ #[ι κ 0,ι κ 0,θ ByteArray.empty,ι κ 0]),4,40):=by kernel_rfl
theorem vl{c:Nat->Prop}{w w':ω}{size:Nat}{v:υ}{n:Nat}{xs:Δ υ}(e:Φ w i u size v n xs)(y:bu c w w')(k:∀g,Ω v=σ g->c g):Φ w' i u size v n xs:=by
 refine⟨e.1,?_⟩;rcases e.2 with j|⟨g,cap,cur,f,s,r,A⟩
 {exact .inl j};exact .inr ⟨g,cap,cur,f,s,(y.block g (k g (by rw[f];rfl))).trans r,A⟩
theorem Rp{w:ω}{size:Nat}{v:υ}{n:Nat}{xs:Δ υ}(f:Φ w i u size v n xs):∃a e,v=ψ a n e:=by rcases f.2 with⟨c,j⟩|⟨r,k,_,c,_⟩;{exact⟨_,_,by rw[c,j]⟩};exact⟨_,_,c⟩
theorem Zk{c:Tk}(e:c.ends=true):bf c=0\/bf c=1:=by cases c<;>first|exact .inl rfl|exact .inr rfl|(simp[Tk.ends]at e)
theorem Zl{c:Tk}(e:c.ends=false):2<=bf c:=by cases c<;>first|(simp[Tk.ends]at e;done)|(simp only[bf];omega)
theorem Zm(S:Γ)(c:Nat)(y:c<=S.size):∃i,i=(j7 (S.extract (aZ S dh c) S.size)).1/\((i.ends=true/\iw S c=[⟨i,aZ S dh c⟩])\/(i.ends=false/\iw S c=⟨i,aZ S dh c⟩::iw S (aZ S dh c+(j7 (S.extract (aZ S dh c) S.size)).2)/\c<aZ S dh c+(j7 (S.extract (aZ S dh c) S.size)).2/\aZ S dh c+(j7 (S.extract (aZ S dh c) S.size)).2<=S.size)):=by refine⟨_,rfl,?_⟩;have B:=gT S dh c;have C:=iq S dh c y;by_cases e:aZ S dh c<S.size;{have⟨s,k⟩:=Zh S (aZ S dh c) e;rw[s];by_cases j:(iu S (aZ S dh c) e).1.ends=true;{refine .inl ⟨j,?_⟩;rw[iw];simp only[dif_pos e,dif_pos j];rw[Cv S _ e j]};have f:(iu S (aZ S dh c) e).1.ends=false:=(by simpa using j);have u:=uK S _ e f;refine .inr ⟨f,?_,by rw[k f];omega,by rw[k f];exact u.2⟩;rw[k f,iw];simp only[dif_pos e,dif_neg j]};have A:aZ S dh c=S.size:=(by omega);have r:j7 (S.extract (aZ S dh c) S.size)=(.stop,0):=pD (by rw[mR];omega);rw[r];refine .inl ⟨rfl,?_⟩;rw[iw];simp only[dif_neg e];rw[A]
theorem U4(S:Γ)(w:ω)(hS:S.size<=300)(r:Eu w):Calls prog 47 #[θ S] w λs w'=>
 ∃v,s=τ v/\Φ w' w.heap.size 113 4 v (iw S 0).length (CZ (iw S 0))/\δ w.heap.size w w':=by
 have⟨i0,hi,lB,ll,kV⟩:=gq Tryz.Zj;have HG:=ak r;clear r;go_in;go_wp2;go_loopw[3,4] (λv U wr=>∃(i:Nat) (l:Δ Tok),U=ι κ i/\i<=S.size/\(Λ l)<=i/\Hid (Φ wr w.heap.size 113 4 v (Λ l) (CZ l))/\Hid (l++iw S i=iw S 0)/\Hid (δ w.heap.size w wr)) (λ_ U _=>S.size - (intOf U).toNat);case atStart=>exact⟨0,[],rfl,aB _,ae _,ak (eM _ _ _ _),ak rfl,ak (aj _ _)⟩
 case round=>
  obtain⟨i,l,rfl,y,hl,O,HT,N⟩:=hrel;have⟨A,C⟩:=nm (S.extract i S.size);have Sy:∀w,(Instr.slice 9 (θ S) (σ (ι κ i)) ν ν).run prog w=.ok (θ A) w:=λw=>by rw[C];exact uW w 9 S underlying9 i y
  have ao:A.size<=300:=by rw[C,mR];omega
  have⟨e,E⟩:=nm (aZ S dh i);have Te:=gT S dh i;have aa:=iq S dh i y;have ud:=yR S dh i 0 y;rw[kU,<- C,<- E]at ud;rw[<- E]at Te aa;have⟨j,D⟩:=nm (S.extract e S.size);have ax:∀w,(Instr.slice 9 (θ S) (σ (ι κ e)) ν ν).run prog w=.ok (θ j) w:=λw=>by rw[D];exact uW w 9 S underlying9 e aa
  have am:j.size<=300:=by rw[D,mR];omega
  have⟨c,G,T⟩:=Zm S i y;rw[<- E,<- D]at G T;have⟨b,hb⟩:=nm (aZ A dh 0);have mo:=Un A wr ao;rw[<- hb]at mo ud;have av:(i:Int)+b=e:=by omega
  have V9:=ak mo;have X:=Jz j wr am (HG.J.aU N.J HG.J.size);rw[<- G]at X;have ac:=ak X;have HK:=ak G;have lj:=ak T;clear mo X G T E hb C D ud;go_wp2_with(go_at_call 70;refine V9.J.mono ?_;rintro r' w' ⟨rfl,rfl⟩);refine ac.J.mono ?_;rintro aC f ⟨rfl,V⟩;have iP:=ak ((N.J.trans (V.mono N.J.size)));have P:=ak (vl O.J (bu.Dv V) (λg r=>(O.J.lt g r).2));have⟨va,vc,hv⟩:=Rp O.J;subst hv;have ap:w.heap.size<=f.heap.size:=iP.J.size;have an:∀g,(Value.slice va (Λ l) vc).ownBlock=σ g->g<f.heap.size:=λg r=>(P.J.lt g r).2;have ag:=ak ((P.J.alloc (vF (bf c) e (dC c) (iQ c))).alloc (vF (bf c) e (dC c) (iQ c)));have BG:((f.alloc (vF (bf c) e (dC c) (iQ c))).alloc (vF (bf c) e (dC c) (iQ c))).heap[f.heap.size+1]?=σ (vF (bf c) e (dC c) (iQ c)):=(by have:=az (f.alloc (vF (bf c) e (dC c) (iQ c))) (vF (bf c) e (dC c) (iQ c));rwa[show(f.alloc (vF (bf c) e (dC c) (iQ c))).heap.size=f.heap.size+1 from by simp]at this);have ad:=ak (World.news_of_block BG);have ab:((f.alloc (vF (bf c) e (dC c) (iQ c))).alloc (vF (bf c) e (dC c) (iQ c))).heap[f.heap.size]?=σ (vF (bf c) e (dC c) (iQ c)):=(dA _ _ _ (by simp)).trans (az f _);have ai:=ak ab;clear V BG ab;unfold IQ;go_wp2_with(at_builtin;refine mb _ rfl _ _ 106 rfl w.heap.size 113 i0 _ 4 40 underlying106 hi lB ll kV rfl (by decide) _ _ _ rfl ag.J ⟨f.heap.size+1,0,ν⟩ 1 1 (WD c e) rfl rfl ad.J (apF c e) (by decide) ?c3 ?c4 ?c5 ?_);case c3=>unfold maxLen;omega
  case c4=>omega
  case c5=>simp;omega
  intro g cap M dy k ij;have A7:M.heap[f.heap.size]?=σ (vF (bf c) e (dC c) (iQ c)):=(k.block f.heap.size (by simp;omega) (λs=>by have:=an _ s.symm;omega)).trans ai.J;obtain⟨u0,-,-,-⟩:=kJ A7;have Q:=ak (show Φ M w.heap.size 113 4 (ψ (σ ⟨g,0,ν⟩) (Λ l+1) cap) (l++[(⟨c,e⟩:Tok)]).length (CZ (l++[(⟨c,e⟩:Tok)]))from by
   rw[au,Zi];exact dy)
  have R:=ak (show δ w.heap.size w M from by
   have CB:δ w.heap.size f ((f.alloc (vF (bf c) e (dC c) (iQ c))).alloc (vF (bf c) e (dC c) (iQ c))):=((aj _ _).alloc ap _).alloc (by simp;omega) _;have N9:δ w.heap.size ((f.alloc (vF (bf c) e (dC c) (iQ c))).alloc (vF (bf c) e (dC c) (iQ c))) M:=⟨k.os,k.tape,k.output,k.size,λq I=>k.block q (by simp;omega) (λs=>by have:=(P.J.lt q s.symm).1;omega)⟩;exact(iP.J.trans CB).trans N9)
  clear dy k ij A7;rcases lj.J with⟨K,u⟩|⟨K,u,cK,Y⟩
  .have EZ:l++[⟨c,e⟩]=iw S 0:=(by rw[<- HT.J,u]);have HF:=ak EZ;have B:bf c=0\/bf c=1:=Zk K;clear EZ u;rcases B with B|B
   {have e0:((bf c:Int)==0)=true:=(by rw[dR];omega);go_wp2;go_ret;refine⟨_,rfl,?_,R.J⟩;rw[<- HF.J];exact Q.J};have e0:((bf c:Int)==0)=false:=(by rw[aY];omega);have e1:((bf c:Int)==1)=true:=(by rw[dR];omega);go_wp2;go_ret;refine⟨_,rfl,?_,R.J⟩;rw[<- HF.J];exact Q.J
  have B:2<=bf c:=Zl K;have e0:((bf c:Int)==0)=false:=(by rw[aY];omega);have e1:((bf c:Int)==1)=false:=(by rw[aY];omega);have Z:KV (j7 j)=(j7 j).2:=(by unfold KV;rw[<- HK.J,aH (by rw[K];decide)]);have al:=ak (show(l++[⟨c,e⟩])++iw S (e+(j7 j).2)=iw S 0 from by rw[<- HT.J,u,cC];rfl);have⟨n,H⟩:=nm (KV (j7 j));rw[<- Z,<- H]at cK Y;have⟨q,I⟩:=nm (e+n);have ar:(e:Int)+n=q:=(by omega);rw[<- I]at cK Y;have HQ:=ak I;have HN:=ak (H.trans Z);rw[<- H];clear Z u H I;go_wp2;go_roundw;(case rel=>refine⟨q,l++[⟨c,e⟩],by first|rfl|go_num,Y,by simp;omega,Q,?_,R⟩;have:=al.J;rw[<- HN.J,<- HQ.J]at this;exact ak this);case measure=>simp[intOf];omega
structure rh where
 v:υ
 pos:Nat
 depth:Nat
 e:Nat
 b:Nat
def rO(x:rh):Array υ:=#[x.v,ι κ x.pos,ι κ x.depth,ι κ x.e,ι κ x.b]
def U5(w:ω)(p:Nat)(x:rh):Prop:=w.heap[p]?=σ (ξ (rO x) 109 (0,0))
theorem U5.cell{w:ω}{p:Nat}{x:rh}(c:U5 w p x)(e:Nat):Ξ w (Ad p e)=(rO x)[e]?:=by unfold U5 at c;simp[World.cell?,c]
theorem U5.fz{w:ω}{p:Nat}{x:rh}(c:U5 w p x)(e:Nat):w.frozen? (Ad p e)=false:=by unfold U5 at c;simp[World.frozen?,c]
theorem U5.lt{w:ω}{p:Nat}{x:rh}(c:U5 w p x):p<w.heap.size:=aA c
theorem U5.set{w:ω}{p:Nat}{x y:rh}(c:U5 w p x)(i:Nat)(v:υ)(e:(rO x).setIfInBounds i v=rO y):U5 (w.setCell (Ad p i) v) p y:=by unfold U5;rw[<- e];exact bq w p i _ _ v c
def uD(x:rh)(l:Δ Tok):aD->Prop
 |.live t ts=>x.e=0/\l.drop x.pos=t::ts
 |.dead e b=>x.e=e/\x.b=b/\e≠0/\l=[⟨.bad,0⟩]/\x.pos=0
def Tk.wf:Tk->Prop
 |.sign s=>s∈gB
 |.cU s=>s∈cY
 |.num n=>n<=9223372036854775807
 |_=>True
structure nO (w:ω)(p:Nat)(x:rh)(m:aD)(l:Δ Tok):Prop where
 xX:U5 w p x
 own:Φ w 0 113 4 x.v (Λ l) (CZ l)
 apart:Ω x.v≠σ p
 mode:uD x l m
 few:Λ l<=400
 wf:∀t∈l,t.k.wf
 fin:∀t,l.getLast?=σ t->t.k.ends=true
theorem adb(l:Δ Tok)(c e:Nat)(j:e<4):(CZ l)[c*4+e]?=(l[c]?).bind λt=>(WD t.k t.pl)[e]?:=by induction l generalizing c with|nil=>simp[CZ]|cons x l i=>have f:CZ (x::l)=WD x.k x.pl++CZ l:=(by simp[CZ]);rw[f];cases c with|zero=>(rw[bF (by simp[WD];omega)];simp)|succ c=>rw[br (by simp[WD];omega)];have:(c+1)*4+e - (WD x.k x.pl).length=c*4+e:=(by simp[WD];omega);rw[this,i];simp
theorem uD.cur{x:rh}{l:Δ Tok}{m:aD}(e:uD x l m):l[x.pos]?=σ ⟨m.tk,m.cE⟩:=by cases m with|dead c b=>(obtain⟨-,-,-,rfl,f⟩:=e;rw[f];rfl)|live t i=>have c:l[x.pos]?=(l.drop x.pos)[0]?:=(by rw[jA];rfl);rw[c,e.2];rfl
theorem nO.slice{w:ω}{p:Nat}{x:rh}{m:aD}{l:Δ Tok}(e:nO w p x m l):∃g cap,x.v=ψ (σ (Ad g 0)) (Λ l) cap/\x.pos<Λ l/\Ξ w (Ad g (x.pos*4))=σ (ι κ (bf m.tk))/\Ξ w (Ad g (x.pos*4+1))=σ (ι κ m.cE)/\Ξ w (Ad g (x.pos*4+2))=σ (θ (dC m.tk))/\Ξ w (Ad g (x.pos*4+3))=σ (ι κ (iQ m.tk))/\g<w.heap.size/\g≠p:=by
 have j:=e.mode.cur;have r:x.pos<Λ l:=(ah.mp j).1;rcases e.own.2 with⟨_,y⟩|⟨g,cap,_,k,_⟩
 {omega}
 have f:=e.own;have i:=e.apart;rw[k]at f i;have get:∀c (_:c<4),Ξ w (Ad g (x.pos*4+c))=(WD m.tk m.cE)[c]?:=λc u=>by
  rw[f.cellAt (x.pos*4+c) (by omega),adb l x.pos c u,j];rfl
 exact⟨g,cap,k,r,get 0 (by decide),get 1 (by decide),get 2 (by decide),get 3 (by decide),(f.lt g rfl).2,λs=>i (by simp[Value.ownBlock,s])⟩
theorem Oc{w:ω}{p:Nat}{x:rh}{m:aD}{l:Δ Tok}(c:nO w p x m l):Calls prog 49 #[π (σ (Ad p 0))] w λf w'=>
 f=τ (IQ m.tk m.cE)/\δ w.heap.size w w':=by
 obtain⟨g,cap,e,y,k,r,s,u,B,j⟩:=c.slice;have C:Ξ w (Ad p 0)=σ (ψ (σ (Ad g 0)) (Λ l) cap):=(c.xX.cell 0).trans (by rw[<- e];rfl);have D:Ξ w (Ad p 1)=σ (ι κ x.pos):=c.xX.cell 1;have A:(x.pos:Int)<Λ l:=by omega
 have E:=c.xX.lt;have i:=c.few;clear c;go_in;go_wp2;go_region;all_goals (try go_wp2);(try simp only[Exit.inBlock,Exit.then]);refine aE (v:=IQ m.tk m.cE) (by simp[results,results49,go_sem,IQ];try rfl) rfl ?_;exact⟨rfl,aP ((aj _ _).alloc (ae _) _)⟩
theorem bu.qS{p:Nat}{w w':ω}(c:δ w.heap.size w w'):bu (Other p w) w w':=⟨c.os,c.tape,c.output,c.size,λf e=>c.block f e.2⟩
theorem bu.Gd{p:Nat}{a b:ω}(c:bu (Other p a) a b)(f:bu (Other p b) b k):bu (Other p a) a k:=
 c.trans (f.mono (λ_ e=>⟨e.1,aw e.2 c.size⟩))
theorem nO.aU{w w':ω}{p:Nat}{x:rh}{m:aD}{l:Δ Tok}(c:nO w p x m l)(e:δ w.heap.size w w'):nO w' p x m l:=
 ⟨(e.block p c.xX.lt).trans c.xX,vl c.own (bu.Dv e) (λg f=>(c.own.lt g f).2),c.apart,c.mode,c.few,c.wf,c.fin⟩
theorem nO.put{w:ω}{p:Nat}{x y:rh}{m m':aD}{l:Δ Tok}(c:nO w p x m l)(i:Nat)(v:υ)(j:(rO x).setIfInBounds i v=rO y)(e:y.v=x.v)(k:uD y l m'):nO (w.setCell (Ad p i) v) p y m' l:=by refine⟨c.xX.set i v j,?_,by rw[e];exact c.apart,k,c.few,c.wf,c.fin⟩;rw[e];refine c.own.kept (grownBy_setCell w (Ad p i) v) ?_;cases hb:Ω x.v with|none=>exact .inl rfl|some g=>exact .inr (by simp;intro f;exact c.apart (by rw[hb,f]))
theorem Zn{x:rh}{l:Δ Tok}{m:aD}(e:uD x l m)(c:x.pos+1<Λ l):uD { x with pos:=x.pos+1 } l m.aK:=by cases m with|dead s b=>(obtain⟨-,-,-,rfl,r⟩:=e;rw[r]at c;exact absurd c (by decide))|live t i=>obtain⟨j,k⟩:=e;have f:l.drop (x.pos+1)=i:=(by rw[<- vA,k];rfl);cases i with|nil=>have:=bI List.length f;rw[dB]at this;simp at this;omega|cons u y=>exact⟨j,f⟩
theorem Zo{x:rh}{l:Δ Tok}{m:aD}(c:uD x l m)(i:¬x.pos+1<Λ l):m.aK=m:=by cases m with|dead j b=>rfl|live t f=>obtain⟨k,e⟩:=c;cases f with|nil=>rfl|cons r s=>have:=bI List.length e;rw[dB]at this;simp at this;omega
def ade(w:ω)(x x':rh):Prop:=∀g,Ω x'.v=σ g->Ω x.v=σ g\/w.heap.size<=g
structure Ge (w w':ω)(p:Nat)(x:rh)(m':aD):Prop where
 ex:∃x' l',nO w' p x' m' l'/\x'.depth=x.depth/\ade w x x'
 keeps:bu (Other p w) w w'
theorem nO.drewN{w:ω}{p:Nat}{x:rh}{m:aD}{l:Δ Tok}(c:nO w p x m l)(n:Nat):nO (w.drewN n) p x m l:=⟨c.xX,c.own,c.apart,c.mode,c.few,c.wf,c.fin⟩
theorem nO.other{w:ω}{p:Nat}{x:rh}{m:aD}{l:Δ Tok}(c:nO w p x m l)(f:i≠p)(j:Ω x.v≠σ i)(e:Nat)(v:υ):nO (w.setCell (Ad i e) v) p x m l:=
 ⟨(aL _ _ _ _ (Ne.symm f)).trans c.xX,c.own.kept (grownBy_setCell w (Ad i e) v) (.inr j),c.apart,c.mode,c.few,c.wf,c.fin⟩
theorem Ge.apG{w:ω}{p:Nat}{x c:rh}{m':aD}{l:Δ Tok}(s:nO k p c m' l)(u:c.depth=x.depth)(A:ade w x c)(B:bu (Other p w) w k)(C:p<w.heap.size)(y:∀g,Ω c.v=σ g->g≠w.heap.size)(a b j d:υ) :
 Ge w ((((k.setCell (Ad w.heap.size 0) a).setCell (Ad w.heap.size 1) b).setCell (Ad w.heap.size 2) j).setCell (Ad w.heap.size 3) d) p x m':=by
 have e:w.heap.size≠p:=by omega
 have f:Ω c.v≠σ w.heap.size:=λr=>y _ r rfl;have i:¬Other p w w.heap.size:=λr=>fy _ r.2;exact⟨⟨c,l,(((s.other e f 0 a).other e f 1 b).other e f 2 j).other e f 3 d,u,A⟩,(((B.setCell (p:=(Ad w.heap.size 0)) i a).setCell (p:=(Ad w.heap.size 1)) i b).setCell (p:=(Ad w.heap.size 2)) i j).setCell (p:=(Ad w.heap.size 3)) i d⟩
theorem agS{w:ω}{p:Nat}{x:rh}{m:aD}{l:Δ Tok}(c:nO w p x m l):Calls prog 72 #[π (σ (Ad p 0))] w λQ w'=>
 Q=τ (IQ m.tk m.cE)/\Ge w w' p x m.aK:=by
 have y:δ w.heap.size w (w.alloc (vF 0 0 ⟨#[]⟩ 0)):=(aj _ _).alloc (ae _) _;have C:=c.aU y;have T:=y;have E:=c.xX.lt;have D:=ak (λg (V:Ω x.v=σ g)=>yW (c.own.lt g V).2);clear c y;go_in;go_wp21;refine(Oc C).mono ?_;rintro Q e ⟨rfl,i⟩;obtain⟨u,r⟩:=nm (e.alloc (vF (bf m.tk) m.cE (dC m.tk) (iQ m.tk)));have A:δ w.heap.size w e:=T.trans (i.mono (by simp));have s:=Br r;have f:=(C.aU i).aU s;have I:u.heap[e.heap.size]?=σ (vF (bf m.tk) m.cE (dC m.tk) (iQ m.tk)):=by rw[r];exact az e _
 have j:u.heap[w.heap.size]?=σ (vF 0 0 ⟨#[]⟩ 0):=(s.block w.heap.size (by have:=i.size;simp at this;omega)).trans ((i.block w.heap.size (by simp)).trans (az w _));obtain⟨t0,t1,t2,t3⟩:=kJ I;obtain⟨K,M,N,O⟩:=kJ j;have z0:=cF j 0;have z1:=cF j 1;have z2:=cF j 2;have z3:=cF j 3;obtain⟨g,cap,H,cK,-⟩:=f.slice;have p0:Ξ u (Ad p 0)=σ (ψ (σ (Ad g 0)) (Λ l) cap):=(f.xX.cell 0).trans (by rw[<- H];rfl);have p1:Ξ u (Ad p 1)=σ (ι κ x.pos):=f.xX.cell 1;have f1:=f.xX.fz 1;have Y:=f.few;have ab:¬(p=w.heap.size):=by omega
 have qY:w.heap.size<e.heap.size:=by have:=i.size;simp at this;omega
 have jK:¬(e.heap.size=w.heap.size):=by omega
 have Z:¬(e.heap.size=p):=by omega
 have aa:¬(p=e.heap.size):=by omega
 have G:=A.trans (s.mono A.size);have k:=f;have R:=ak r;clear i A s f I j r H;unfold IQ;by_cases P:x.pos+1<Λ l;{have X:(x.pos:Int)<(Λ l:Int) - 1:=(by omega);go_wp2;rw[<- R.J];go_quiet(fail);go_wp2;(try simp only[Exit.inBlock,Exit.then]);refine aE (v:=IQ m.tk m.cE) (by simp[results,results72,go_sem,IQ,K,M,N,O];try rfl) rfl ?_;have B:=(bu.drewN (bu.qS (p:=p) G) nq).own 1 (ι κ ((x.pos:Int)+1));exact⟨rfl,Ge.apG (x:=x) ((k.drewN nq).put (y:={ x with pos:=x.pos+1 }) 1 (ι κ ((x.pos:Int)+1)) (by simp[rO]) rfl (Zn k.mode P)) rfl (λ_ c=>.inl c) B E D.J _ _ _ _⟩};have X:¬(x.pos:Int)<(Λ l:Int) - 1:=(by omega);have U:=ak (Zo k.mode P);go_wp2;rw[<- R.J];go_quiet(fail);go_wp2;(try simp only[Exit.inBlock,Exit.then]);refine aE (v:=IQ m.tk m.cE) (by simp[results,results72,go_sem,IQ,K,M,N,O];try rfl) rfl ?_;have B:=bu.drewN (bu.qS (p:=p) G) nq;rw[U.J];exact⟨rfl,Ge.apG (x:=x) (k.drewN nq) rfl (λ_ c=>.inl c) B E D.J _ _ _ _⟩
theorem tw(c b:Nat)(w:ω):Calls prog 25 #[χ #[ι κ c,ι κ b]] w λf w'=>f=τ (.bool (decide (c≠0)))/\δ w.heap.size w w':=by by_cases e:c=0;{have i:((c:Int) != 0)=false:=(by rw[e];rfl);go_in;go_wp2;go_ret;refine⟨by simp[e],(aj _ _).alloc (ae _) _⟩};have i:((c:Int) != 0)=true:=(by rw[dZ];omega);go_in;go_wp2;go_ret;refine⟨by simp[e],(aj _ _).alloc (ae _) _⟩
theorem nO.lost{w wp:ω}{p:Nat}{x y:rh}(e:U5 wp p y)(s:y.e≠0)(k:y.pos=0)(f:y.v=ψ (σ (Ad wp.heap.size 0)) 1 1)(r:y.depth=x.depth)(i:bu (Other p w) w wp) :
 Ge w (wp.alloc (vF 1 0 ⟨#[]⟩ 0)) p x (.dead y.e y.b):=by refine⟨⟨y,[⟨.bad,0⟩],⟨(dA _ _ _ e.lt).trans e,?_,?_,⟨rfl,rfl,s,rfl,k⟩,by simp,λt c=>?_,λt c=>?_⟩,r,λg j=>?_⟩,i.alloc (λq u=>aw u.2 i.size) _⟩;{rw[f];exact⟨by simp[CZ,WD],.inr ⟨wp.heap.size,1,#[ι κ 1,ι κ 0,θ ⟨#[]⟩,ι κ 0],rfl,aB _,az wp _,by simp,by decide,by simp,by simp[CZ,WD,bf,dC,iQ]⟩⟩};{rw[f];have:=e.lt;simp[Value.ownBlock];omega};{rw[bj]at c;subst c;trivial};{cases c;rfl};rw[f]at j;simp[Value.ownBlock]at j;have:=i.size;exact .inr (by omega)
theorem Zp{x:rh}{l:Δ Tok}{m:aD}(e:uD x l m)(j:x.e=0)(c b:Nat):m.fail c b=.dead c b:=by cases m with|dead r k=>(obtain⟨f,-,i,-⟩:=e;exact absurd (f.symm.trans j) i)|live t s=>rfl
theorem Zq{x:rh}{l:Δ Tok}{m:aD}(c:uD x l m)(j:¬x.e=0)(e b:Nat):m.fail e b=.dead x.e x.b:=by cases m with|dead r k=>(obtain⟨f,i,-⟩:=c;rw[f,i];rfl)|live t s=>exact absurd c.1 j
theorem agT{w:ω}{p:Nat}{x:rh}{m:aD}{l:Δ Tok}(y:nO w p x m l)(f b:Nat)(O:f≠0):Calls prog 79 #[π (σ (Ad p 0)),χ #[ι κ f,ι κ b]] w λE w'=>
 E=τ (.tuple #[])/\Ge w w' p x (m.fail f b):=by have Q:=y.xX.lt;have u:δ w.heap.size w (w.alloc (nP f b)):=(aj _ _).alloc (ae _) _;have k:=y.aU u;have X:(w.alloc (nP f b)).cell? (Ad p 3)=σ (ι κ x.e):=k.xX.cell 3;have Y:(w.alloc (nP f b)).cell? (Ad p 4)=σ (ι κ x.b):=k.xX.cell 4;have H:=k;have G:=u;clear y u k;by_cases r:x.e=0;{have j:=ak r;clear r;go_in;go_wp21;refine(tw x.e x.b _).mono ?_;rintro E e ⟨rfl,i⟩;have c:=H.aU i;have s:=c;have A:decide (x.e≠0)=false:=(by simp[j.J]);have I:Ξ e (Ad p 0)=σ x.v:=c.xX.cell 0;have K:Ξ e (Ad p 1)=σ (ι κ x.pos):=c.xX.cell 1;have R:Ξ e (Ad p 3)=σ (ι κ x.e):=c.xX.cell 3;have T:Ξ e (Ad p 4)=σ (ι κ x.b):=c.xX.cell 4;have M:=c.xX.fz 0;have N:=c.xX.fz 1;have U:=c.xX.fz 3;have V:=c.xX.fz 4;have D:e.heap[w.heap.size]?=σ (nP f b):=(i.block w.heap.size (by simp)).trans (az w _);have Z:Ξ e (Ad w.heap.size 0)=σ (ι κ f):=(by simp[World.cell?,D]);have u1:Ξ e (Ad w.heap.size 1)=σ (ι κ b):=(by simp[World.cell?,D]);have B:=G.trans (i.mono (by simp));have P:=c.xX.lt;rw[A];clear i c D;go_wp2;go_end0;refine⟨rfl,?_⟩;have c:=s;rw[Zp c.mode j.J];have C:=((((bu.qS (p:=p) B).own 3 (ι κ f)).own 4 (ι κ b)).own 0 (ψ (σ (Ad e.heap.size 0)) 1 1)).own 1 (ι κ 0);exact nO.lost (y:=⟨ψ (σ (Ad e.heap.size 0)) 1 1,0,x.depth,f,b⟩) ((((c.xX.set (y:=⟨x.v,x.pos,x.depth,f,x.b⟩) 3 _ (by simp[rO])).set (y:=⟨x.v,x.pos,x.depth,f,b⟩) 4 _ (by simp[rO])).set (y:=⟨ψ (σ (Ad e.heap.size 0)) 1 1,x.pos,x.depth,f,b⟩) 0 _ (by simp[rO])).set 1 _ (by simp[rO])) O rfl (by simp[World.setCell]) rfl C};have j:=ak r;clear r;go_in;go_wp21;refine(tw x.e x.b _).mono ?_;rintro E e ⟨rfl,i⟩;have c:=H.aU i;have s:=c;have A:decide (x.e≠0)=true:=(by simp[j.J]);have I:Ξ e (Ad p 0)=σ x.v:=c.xX.cell 0;have K:Ξ e (Ad p 1)=σ (ι κ x.pos):=c.xX.cell 1;have M:=c.xX.fz 0;have N:=c.xX.fz 1;have B:=G.trans (i.mono (by simp));have P:=c.xX.lt;rw[A];clear i c;go_wp2;go_end0;refine⟨rfl,?_⟩;have c:=s;rw[Zq c.mode j.J];have C:=((bu.qS (p:=p) B).own 0 (ψ (σ (Ad e.heap.size 0)) 1 1)).own 1 (ι κ 0);exact nO.lost (y:=⟨ψ (σ (Ad e.heap.size 0)) 1 1,0,x.depth,x.e,x.b⟩) ((c.xX.set (y:=⟨ψ (σ (Ad e.heap.size 0)) 1 1,x.pos,x.depth,x.e,x.b⟩) 0 _ (by simp[rO])).set 1 _ (by simp[rO])) j.J rfl (by simp[World.setCell]) rfl C
def pB(w:ω)(g:Nat)(ks:Δ Nat):Prop:=∀j (h:j<Λ ks),Ξ w ⟨g,j,ν⟩=σ (ι κ (ks[j]:Nat))
theorem U7(e:Δ Nat)(g cap i:Nat)(w:ω)(D:pB w g e)(K:Λ e<=100):Calls prog 179 #[ψ (σ ⟨g,0,ν⟩) (Λ e) cap,ι κ i] w λE w'=>
 ∃n:Int,E=τ (ι κ n)/\(0<=n↔i∈e)/\δ w.heap.size w w':=by
 have A:=ak D;go_in;go_wp2;go_loopw[8] (λv wr=>∃c:Nat,c<=Λ e/\v=ι κ c/\(∃d,wr=w.drewN d)/\Hid (∀f (j:f<Λ e),f<c->e[f]≠i)) (λv _=>Λ e - (intOf v).toNat);case atStart=>exact⟨0,aB _,rfl,⟨0,rfl⟩,ak (λf _ j=>by omega)⟩
 case round=>obtain⟨c,I,rfl,⟨d,rfl⟩,u⟩:=hrel;by_cases k:c<Λ e;{have C:=aX.2 k;have H:Ξ w ⟨g,c,ν⟩=σ (ι κ (e[c]:Nat)):=A.J c k;by_cases r:e[c]=i;{have G:((i:Int)==(e[c]:Nat))=true:=(by rw[dR,r]);go_wp2;go_ret;exact⟨c,rfl,⟨λ_=>r ▸ ej k,λ_=>by omega⟩,Below.drewN (aj _ _) d⟩};have G:((i:Int)==(e[c]:Nat))=false:=(by rw[aY];omega);go_wp2;refine⟨⟨c+1,by omega,by go_num,⟨d,rfl⟩,ak (λf s j=>?_)⟩,by simp[intOf];omega⟩;by_cases y:f=c;{subst y;exact r};exact u.J f s (by omega)};have C:¬(c:Int)<Λ e:=(by omega);go_wp2;go_ret;refine⟨-1,rfl,⟨λj=>by omega,λj=>?_⟩,Below.drewN (aj _ _) d⟩;have⟨f,s,B⟩:=List.getElem_of_mem j;exact absurd B (u.J f s (by omega))
theorem adf(c:Δ Nat)(g cap e:Nat)(w:ω)(i:pB w g c)(y:Λ c<=100):Calls prog 150 #[ψ (σ ⟨g,0,ν⟩) (Λ c) cap,ι κ e] w λk w'=>
 k=τ (.bool (decide (e∈c)))/\δ w.heap.size w w':=by have s:=ak (U7 c g cap e w i y);clear i;go_in;go_wp21;refine s.J.mono ?_;rintro k A ⟨n,rfl,j,f⟩;have r:=ak f;have u:=ak j;clear f j;go_wp2;go_ret;refine⟨?_,r.J⟩;show Ending.returned (Value.bool (decide (0<=n)))=_;congr 2;exact decide_eq_decide.mpr u.J
theorem U8(a b:Int)(c:Γ)(d:Int)(w:ω):(Instr.field 113 (χ #[ι κ a,ι κ b,θ c,ι κ d]) 0).run prog w=.ok (ι κ a) w:=by kernel_rfl
theorem pB.aU{w w':ω}{g:Nat}(f:pB w g e)(j:δ i w w')(k:g<i):pB w' g e:=λc r=>(j.cell (p:=⟨g,c,ν⟩) k).trans (f c r)
theorem Zr{w:ω}{p:Nat}{x:rh}{m:aD}{l:Δ Tok}(y:nO w p x m l)(c:Δ Nat)(g cap:Nat)(B:pB w g c)(C:Λ c<=100)(A:g<w.heap.size):Calls prog 106 #[π (σ ⟨p,0,ν⟩),ψ (σ ⟨g,0,ν⟩) (Λ c) cap] w λe w'=>
 e=τ (.bool (decide (bf m.tk∈c)))/\δ w.heap.size w w':=by have j:=ak y;have r:=ak B;go_in;go_wp21;refine(Oc j.J).mono ?_;rintro e E ⟨rfl,f⟩;have D:=r.J.aU f A;have k:=ak (adf c g cap (bf m.tk) E D C);have i:=ak f;have G:∀w,(Instr.field 113 (χ #[ι κ (bf m.tk),ι κ m.cE,θ (dC m.tk),ι κ (iQ m.tk)]) 0).run prog w=.ok (ι κ (bf m.tk)) w:=λw=>U8 _ _ _ _ w;unfold IQ;go_wp21;refine k.J.mono ?_;rintro e H ⟨rfl,s⟩;have u:=ak (i.J.trans (s.mono i.J.size));go_wp2;go_ret;exact⟨rfl,u.J⟩
def opsL:Δ Nat:=[0,0,0,0,0,6,8,10,5,7,9,0,0,0,0,0,0,1,2,3,4,0,0,0,0,0,0,0,0,0,0,0,0,0,0,11,12]
def Rr(w:ω):Prop:=∀i n,opsL[i]?=σ n->Ξ w (Ad 8 i)=σ (ι κ (n:Nat))
structure Pr (o:ω×Option Nat)(w:ω)(p d:Nat)(m:aD)(L:Δ It):Prop where
 ex:∃x l,nO w p x m l/\x.depth=d/\∀g,Ω x.v=σ g->(o.2=σ g\/o.1.heap.size<=g)/\∀a∈L,OC a≠σ g
 fr:bu (Other p o.1) o.1 w
 ok:∀a∈L,zE o.1.heap.size w a
 ap:L.Pairwise λa b=>∀g,OC a=σ g->OC b≠σ g
 lo:12<=p/\p<o.1.heap.size
 ops:Rr o.1
section
variable {o:ω×Option Nat} {w w':ω} {p d d' b lo lo' g cap n z:Nat} {m m':aD} {L:Δ It} {a:It} {cs:Array υ} {t:TypeId} {v:υ} {xs ys:Δ υ} {x x':rh} {l l':Δ Tok}
theorem Pr.go(S:Pr o w p d m L):∃x l,nO w p x m l/\x.depth=d/\∀{w' m' d' x' l'},nO w' p x' m' l'->x'.depth=d'->ade w x x'->bu (Other p w) w w'->Pr o w' p d' m' L:=by obtain⟨x,l,j,r,u⟩:=S.ex;refine⟨x,l,j,r,λ{w' m' d' x' l'} k s y f=>?_⟩;have B:=S.lo;have A:=S.fr.size;refine⟨⟨x',l',k,s,λg e=>?_⟩,S.fr.Gd f,λa c=>qs (S.ok a c) λg e=>f.block g ?_,S.ap,S.lo,S.ops⟩;{rcases y g e with q|q;{exact u g q};exact⟨.inr (by omega),λa c i=>by have:=(pI (S.ok a c) i).1;omega⟩};have:=pI (S.ok a c) e;exact⟨by omega,this.1⟩
theorem Pr.st(S:Pr o w p d m L):∃x l,nO w p x m l/\∀{w' m'},Ge w w' p x m'->Pr o w' p d m' L:=by obtain⟨x,l,i,k,f⟩:=S.go;refine⟨x,l,i,λ{w' m'} c=>?_⟩;obtain⟨x',l',j,e,r⟩:=c.ex;exact f j (e.trans k) r c.keeps
theorem Pr.aU(S:Pr o w p d m L)(e:δ w.heap.size w w'):Pr o w' p d m L:=by obtain⟨x,l,c,i,f⟩:=S.go;exact f (c.aU e) i (λ_ c=>.inl c) (bu.qS e)
theorem Pr.alloc(S:Pr o w p d m L)(c:Obj):Pr o (w.alloc c) p d m L:=S.aU ((aj _ _).alloc (ae _) c)
theorem Pr.drew(S:Pr o w p d m L):Pr o w.drew p d m L:=S.aU (aP (aj _ _))
theorem Pr.wf(S:Pr o w p d m L):m.tk.wf:=by obtain⟨x,l,c,-⟩:=S.ex;exact c.wf _ (aq c.mode.cur)
theorem Pr.lt(S:Pr o w p d m L):p<w.heap.size:=aw S.lo.2 S.fr.size
theorem Pr.alr(S:Pr o w p d m L):Rr w:=λc n e=>by
 have f:=S.lo;exact(S.fr.cell (p:=(Ad 8 c)) ⟨by show 8≠p;omega,by show 8<_;omega⟩).trans (S.ops c n e)
theorem Pr.start(e:Pr o w p d m L):∃q,Pr (w,q) w p d m []/\∀{w' d' m'} (j:Δ It) {s:Δ It},Pr (w,q) w' p d' m' (j++s)->Pr o w' p d' m' (j++L):=by obtain⟨x,l,C,G,u⟩:=e.ex;have I:=e.lo;have y:=e.fr.size;refine⟨Ω x.v,⟨⟨x,l,C,G,λg i=>⟨.inl i,λa c=>by cases c⟩⟩,bu.refl _ _,(λa c=>by cases c),.nil,⟨I.1,e.lt⟩,e.alr⟩,λ{w' d' m'} j {s} S=>?_⟩;obtain⟨x',l',D,H,r⟩:=S.ex;have k:∀a∈L,∀g,OC a=σ g->g<w.heap.size/\o.1.heap.size<=g:=λa c g f=>pI (e.ok a c) f;have A:∀a∈j,∀g,OC a=σ g->w.heap.size<=g:=λa c g f=>(pI (S.ok a (iD _ c)) f).2;refine⟨⟨x',l',D,H,λg i=>⟨?_,λa c f=>?_⟩⟩,e.fr.Gd S.fr,λa c=>?_,jG.mpr ⟨(jG.mp S.ap).1,e.ap,λa c b E g f B=>by have:=A a c g f;have:=(k b E g B).1;omega⟩,e.lo,e.ops⟩;{rcases(r g i).1 with q|q;{exact(u g q).1};exact .inr (ay y q)};{rcases bA.mp c with c|c;{exact(r g i).2 a (iD _ c) f};rcases(r g i).1 with q|q;{exact(u g q).2 a c f};have:=(k a c g f).1;have K:w.heap.size<=g:=q;omega};rcases bA.mp c with c|c;{exact Ti (S.ok a (iD _ c)) y};exact qs (e.ok a c) λg i=>S.fr.block g ⟨by have:=k a c g i;omega,(k a c g i).1⟩
theorem Pr.new(S:Pr o w p d m L)(cs:Array υ)(t:TypeId):Pr o (w.alloc (ξ cs t)) p d m (.inl (w.heap.size,cs,t)::L):=by obtain⟨x,l,j,s,k⟩:=S.ex;have i:=S.alloc (ξ cs t);refine⟨⟨x,l,j.aU ((aj _ _).alloc (ae _) _),s,λg f=>⟨(k g f).1,λa c e=>?_⟩⟩,i.fr,λa c=>?_,bE.mpr ⟨λa c g e r=>?_,S.ap⟩,S.lo,S.ops⟩;{rcases bV.mp c with rfl|c;{cases e;have:=(j.own.lt _ f).2;omega};exact(k g f).2 a c e};{rcases bV.mp c with rfl|c;{exact⟨az w _,S.fr.size⟩};exact i.ok a c};cases e;have:=(pI (S.ok a c) r).1;omega
theorem Pr.turn{i:It}(S:Pr o w p d m (a::L))(u:zE o.1.heap.size w i)(s:∀g,OC i=σ g->OC a=σ g):Pr o w p d m (i::L):=by obtain⟨x,l,q,y,k⟩:=S.ex;have r:=bE.mp S.ap;refine⟨⟨x,l,q,y,λg j=>⟨(k g j).1,λe c f=>?_⟩⟩,S.fr,λe c=>?_,bE.mpr ⟨λe c g f=>r.1 e c g (s g f),r.2⟩,S.lo,S.ops⟩;{rcases bV.mp c with rfl|c;{exact(k g j).2 _ (.head _) (s g f)};exact(k g j).2 e (.tail _ c) f};rcases bV.mp c with rfl|c;{exact u};exact S.ok e (.tail _ c)
theorem Pr.drop(S:Pr o w p d m (a::L)):Pr o w p d m L:=by obtain⟨x,l,q,j,i⟩:=S.ex;exact⟨⟨x,l,q,j,λg f=>⟨(i g f).1,λc e=>(i g f).2 c (.tail _ e)⟩⟩,S.fr,λc e=>S.ok c (.tail _ e),(bE.mp S.ap).2,S.lo,S.ops⟩
theorem Pr.perm{i:Δ It}(S:Pr o w p d m L)(e:L.Perm i):Pr o w p d m i:=by obtain⟨x,l,q,u,k⟩:=S.ex;exact⟨⟨x,l,q,u,λg j=>⟨(k g j).1,λc f=>(k g j).2 c (e.mem_iff.mpr f)⟩⟩,S.fr,λc f=>S.ok c (e.mem_iff.mpr f),(e.pairwise_iff (λy g r s=>y g s r)).mp S.ap,S.lo,S.ops⟩
theorem Pr.nil(S:Pr o w p d m L)(t:TypeId)(z:Nat):Pr o w p d m (.inr (ψ ν 0 0,t,z,0,[])::L):=by obtain⟨x,l,q,k,j⟩:=S.ex;refine⟨⟨x,l,q,k,λg i=>⟨(j g i).1,λe c f=>?_⟩⟩,S.fr,λe c=>?_,bE.mpr ⟨λe c g f=>(by cases f),S.ap⟩,S.lo,S.ops⟩;{rcases bV.mp c with rfl|c;{cases f};exact(j g i).2 e c f};rcases bV.mp c with rfl|c;{exact eM _ _ _ _};exact S.ok e c
theorem Pr.box(S:Pr o w p d m (.inl (b,cs,t)::L)):w.heap[b]?=σ (ξ cs t (0,0)):=(S.ok _ (.head _)).1
theorem Pr.fz(S:Pr o w p d m (.inl (b,cs,t)::L))(c:Nat):w.frozen? (Ad b c)=false:=cF S.box c
theorem Pr.at(S:Pr o w p d m (.inl (b,cs,t)::L)):b<w.heap.size/\o.1.heap.size<=b:=pI (S.ok _ (.head _)) rfl
theorem Pr.row(S:Pr o w p d m (.inr (v,t,z,n,xs)::L)):Φ w o.1.heap.size t z v n xs:=S.ok _ (.head _)
theorem Pr.one(S:Pr o w p d m (.inl (b,cs,t)::L))(f:cs.size=z):Pr o w p d m (.inr (ψ (σ (Ad b 0)) 1 1,t,z,1,cs.toList)::L):=by have c:=S.ok _ (.head _);exact S.turn (show Φ w o.1.heap.size t z (ψ (σ (Ad b 0)) 1 1) 1 cs.toList from⟨by simpa using f,.inr ⟨b,1,cs,rfl,c.2,c.1,by omega,by decide,by omega,by rw[aQ (by simp;omega)]⟩⟩) (λg e=>e)
theorem Pr.put(S:Pr o w p d m (.inl (b,cs,t)::L))(i:Nat)(u:υ):Pr o (w.setCell (Ad b i) u) p d m (.inl (b,cs.setIfInBounds i u,t)::L):=by
 obtain⟨x,l,y,A,k⟩:=S.ex;have D:=S.at;have E:=S.lo.2;have r:=bE.mp S.ap;have C:∀e∈L,zE o.1.heap.size (w.setCell (Ad b i) u) e:=λe c=>qs (S.ok e (.tail _ c)) λg j=>aL _ _ _ _ (λf=>r.1 e c b rfl ((show g=b from f) ▸ j));have s:Pr o (w.setCell (Ad b i) u) p d m (.inl (b,cs.setIfInBounds i u,t)::L):=
  ⟨⟨x,l,y.other (by omega) (λf=>(k b f).2 _ (.head _) rfl) i u,A,λg j=>⟨(k g j).1,λe c f=>by
   rcases bV.mp c with rfl|c
   . exact(k g j).2 _ (.head _) f
   . exact(k g j).2 e (.tail _ c) f⟩⟩,S.fr.setCell (p:=(Ad b i)) (λB=>by have:b<o.1.heap.size:=B.2;omega) u,λe c=>by
   rcases bV.mp c with rfl|c
   . exact⟨bq w b i _ _ u S.box,D.2⟩
   . exact C e c,bE.mpr r,S.lo,S.ops⟩
 exact s
theorem nO.grown{row:Option Nat}(c:nO w p x m l)(e:w.grownBy w' row)(f:∀g,row=σ g->g≠p/\(Ω x.v)≠σ g):nO w' p x m l:=
 ⟨(e.block p c.xX.lt (λi=>(f p i.symm).1 rfl)).trans c.xX,c.own.kept e (by
   cases row with
   |none=>cases hb:Ω x.v<;>simp
   |some g=>exact .inr (f g rfl).2),c.apart,c.mode,c.few,c.wf,c.fin⟩
theorem Pr.app{q:Nat}(S:Pr o w p d m (.inr (v,t,z,n,xs)::L))(E:Φ w' o.1.heap.size t z (ψ (σ (Ad g 0)) q cap) q ys)(y:w.grownBy w' (Ω v))(k:Ω v=σ g\/w.heap.size<=g) :
 Pr o w' p d m (.inr (ψ (σ (Ad g 0)) q cap,t,z,q,ys)::L):=by
 obtain⟨x,l,A,D,s⟩:=S.ex;have H:=S.lo.2;have u:=bE.mp S.ap;have B:∀c,Ω v=σ c->o.1.heap.size<=c:=λc e=>(pI (S.ok _ (.head _)) e).2;have G:=S.fr.size;refine⟨⟨x,l,A.grown y (λc e=>⟨by have:=B c e;omega,λr=>(s c r).2 _ (.head _) e⟩),D,λc i=>⟨(s c i).1,λj f e=>?_⟩⟩,S.fr.grown y (λc i=>aw i.2 G) (λc e i=>by have:=B c e;have:=i.2;omega),λj f=>?_,bE.mpr ⟨λj f c e r=>?_,u.2⟩,S.lo,S.ops⟩
 .rcases bV.mp f with rfl|f
  .have r:g=c:=bh e;subst r;rcases k with k|k
   {exact(s _ i).2 _ (.head _) k};have:=(A.own.lt _ i).2;omega
  exact(s c i).2 j (.tail _ f) e
 {rcases bV.mp f with rfl|f;{exact E};exact qs (S.ok j (.tail _ f)) λc i=>y.block c (pI (S.ok j (.tail _ f)) i).1 (λe=>u.1 j f c e.symm i)}
 have C:g=c:=bh e;subst C;rcases k with k|k
 {exact u.1 j f _ k r};have:=(pI (S.ok j (.tail _ f)) r).1;omega
end
theorem Hg{L:Δ Γ}{t:Γ}(e:t∈L):L[yC L t]?=σ t:=by have c:L.findIdx (ct t)<Λ L:=List.findIdx_lt_length_of_exists ⟨t,e,cD.mpr rfl⟩;have:=tR (w:=c);rw[cD]at this;unfold yC;rw[af c,<- this]
theorem Li:∀t∈cY,∀c∈gB,ct t c=false:=by decide
theorem Lj:∀t∈gB,∀c∈cY,ct t c=false:=by decide
theorem nO.goes{w:ω}{p:Nat}{x:rh}{m:aD}{l:Δ Tok}(e:nO w p x m l)(i:m.is s=true):m.cZ/\m.aK.len+1=m.len:=by cases m with|dead c b=>simp[aD.is,aD.tk]at i|live t u=>refine⟨trivial,?_⟩;cases u with|cons y A=>rfl|nil=>exfalso;have j:=e.mode.2;have r:l.getLast?=σ t:=(by have c:=kD x.pos l;rw[j]at c;rw[<- c,List.getLast?_append];rfl);have k:=e.fin t r;have f:=G5 i;rw[k]at f;cases f
theorem lN{m:aD}(hw:m.tk.wf){i:Nat}(c:gB[i]?=σ s)(k:yC gB s=i):m.is s=decide (bf m.tk=5+i):=by have r:i<16:=(ah.mp c).1;have j:s∈gB:=aq c;unfold aD.is;cases hk:m.tk with|stop=>(exact(show false=decide (0=5+i)from(aV (by omega)).symm))|bad=>(exact(show false=decide (1=5+i)from(aV (by omega)).symm))|aI t=>(exact(show false=decide (2=5+i)from(aV (by omega)).symm))|num t=>(exact(show false=decide (3=5+i)from(aV (by omega)).symm))|str t=>(exact(show false=decide (4=5+i)from(aV (by omega)).symm))|sign t=>(rw[hk]at hw;have e:t∈gB:=hw;rw[jt,cD,dY];simp only[bf];constructor;{rintro rfl;rw[k]};intro u;have f:=Hg e;rw[show yC gB t=i from by omega,c]at f;exact(bh f).symm)|cU t=>rw[hk]at hw;have e:t∈cY:=hw;show ct t s=decide (21+yC cY t=5+i);rw[Li t e s j];exact(aV (by omega)).symm
theorem fS{m:aD}(hw:m.tk.wf){i:Nat}(f:cY[i]?=σ s)(k:yC cY s=i):m.is s=decide (bf m.tk=21+i):=by have j:s∈cY:=aq f;unfold aD.is;cases hk:m.tk with|stop=>(exact(show false=decide (0=21+i)from(aV (by omega)).symm))|bad=>(exact(show false=decide (1=21+i)from(aV (by omega)).symm))|aI t=>(exact(show false=decide (2=21+i)from(aV (by omega)).symm))|num t=>(exact(show false=decide (3=21+i)from(aV (by omega)).symm))|str t=>(exact(show false=decide (4=21+i)from(aV (by omega)).symm))|sign t=>(rw[hk]at hw;have c:t∈gB:=hw;have e:yC gB t<16:=(ah.mp (Hg c)).1;show ct t s=decide (5+yC gB t=21+i);rw[Lj t c s j];exact(aV (by omega)).symm)|cU t=>rw[hk]at hw;have c:t∈cY:=hw;rw[jt,cD,dY];simp only[bf];constructor;{rintro rfl;rw[k]};intro r;have e:=Hg c;rw[show yC cY t=i from by omega,f]at e;exact(bh e).symm
theorem oP(m:aD):(if bf m.tk=2 then m.aK else m.cQ 2)=m.aI.2/\(m.aI.2.cZ->(dC m.tk,m.cE)=m.aI.1):=by unfold aD.aI;cases hk:m.tk with|aI t=>exact⟨rfl,λ_=>rfl⟩|stop=>(exact⟨rfl,λc=>absurd c (by cases m<;>exactλc=>c)⟩)|bad=>(exact⟨rfl,λc=>absurd c (by cases m<;>exactλc=>c)⟩)|num t=>(exact⟨rfl,λc=>absurd c (by cases m<;>exactλc=>c)⟩)|str t=>(exact⟨rfl,λc=>absurd c (by cases m<;>exactλc=>c)⟩)|sign t=>(exact⟨aH (by simp only[bf];omega),λc=>absurd c (by cases m<;>exactλc=>c)⟩)|cU t=>exact⟨aH (by simp only[bf];omega),λc=>absurd c (by cases m<;>exactλc=>c)⟩
section
variable {o:ω×Option Nat} {w w':ω} {p d b:Nat} {m:aD} {L:Δ It} {t:TypeId}
theorem gC{a:υ}(c:w.heap[b]?=σ (ξ #[a,r] t (0,0))):Ξ w (Ad b 0)=σ a/\Ξ w (Ad b 1)=σ r:=by simp[World.cell?,c]
theorem yS{a:υ}(c:w.heap[b]?=σ (ξ #[a,r,y] t (0,0))):Ξ w (Ad b 0)=σ a/\Ξ w (Ad b 1)=σ r/\Ξ w (Ad b 2)=σ y:=by simp[World.cell?,c]
theorem eJ{a:υ}(c:w.heap[b]?=σ (ξ #[a,r,y,j] t (0,0))):Ξ w (Ad b 0)=σ a/\Ξ w (Ad b 1)=σ r/\Ξ w (Ad b 2)=σ y/\Ξ w (Ad b 3)=σ j:=by simp[World.cell?,c]
theorem qT{a c:υ}(e:w.heap[b]?=σ (ξ #[a,r,y,j,c] t (0,0))):Ξ w (Ad b 0)=σ a/\Ξ w (Ad b 1)=σ r/\Ξ w (Ad b 2)=σ y/\Ξ w (Ad b 3)=σ j/\Ξ w (Ad b 4)=σ c:=by simp[World.cell?,e]
theorem qU(m:aD)(c:Nat):m.aK.fail c m.cE=m.cQ c:=by cases m with|dead c b=>rfl|live t e=>cases e<;>rfl
theorem xK(a b:Int)(e:Γ)(c:Int)(w:ω):(Instr.field 113 (χ #[ι κ a,ι κ b,θ e,ι κ c]) 0).run prog w=.ok (ι κ a) w/\(Instr.field 113 (χ #[ι κ a,ι κ b,θ e,ι κ c]) 1).run prog w=.ok (ι κ b) w/\(Instr.field 113 (χ #[ι κ a,ι κ b,θ e,ι κ c]) 3).run prog w=.ok (ι κ c) w:=⟨by kernel_rfl,by kernel_rfl,by kernel_rfl⟩
theorem Pr.aK(S:Pr o w p d m L):Calls prog 49 #[π (σ (Ad p 0))] w λc w'=>
 c=τ (χ #[ι κ (bf m.tk),ι κ m.cE,θ (dC m.tk),ι κ (iQ m.tk)])/\Pr o w' p d m L:=by obtain⟨x,l,e,-⟩:=S.ex;refine(Oc e).mono ?_;rintro c w' ⟨rfl,f⟩;exact⟨rfl,S.aU f⟩
theorem Pr.take(S:Pr o w p d m L):Calls prog 72 #[π (σ (Ad p 0))] w λc w'=>
 c=τ (χ #[ι κ (bf m.tk),ι κ m.cE,θ (dC m.tk),ι κ (iQ m.tk)])/\Pr o w' p d m.aK L:=by obtain⟨x,l,i,f⟩:=S.st;refine(agS i).mono ?_;rintro c w' ⟨rfl,e⟩;exact⟨rfl,f e⟩
theorem Pr.fail(S:Pr o w p d m L)(c b:Nat)(k:c≠0):Calls prog 79 #[π (σ (Ad p 0)),χ #[ι κ c,ι κ b]] w λe w'=>
 e=τ (.tuple #[])/\Pr o w' p d (m.fail c b) L:=by obtain⟨x,l,j,i⟩:=S.st;refine(agT j c b k).mono ?_;rintro e w' ⟨rfl,f⟩;exact⟨rfl,i f⟩
theorem Pr.refuse(e:Pr o w p d m L)(a b:Nat)(j:Γ)(i:Nat):Calls prog 50 #[π (σ (Ad p 0)),χ #[ι κ a,ι κ b,θ j,ι κ i]] w λc w'=>
 c=τ (.tuple #[])/\Pr o w' p d (m.fail 2 b) L:=by obtain⟨q,S,fin⟩:=e.start;go_in;go_wp21;refine((S.alloc _).fail 2 b (by decide)).mono ?_;rintro c k ⟨rfl,f⟩;go_wp2;go_end0;exact⟨rfl,fin [] f⟩
theorem Pr.Zs{x:υ}(S:Pr o w p d m (.inl (b,#[x,r],t)::L))(a c:υ):Pr o ((w.setCell (Ad b 0) a).setCell (Ad b 1) c) p d m (.inl (b,#[a,c],t)::L):=(S.put 0 a).put 1 c
theorem Pr.awe{x z:υ}(S:Pr o w p d m (.inl (b,#[x,r,z],t)::L))(a c e:υ):Pr o (((w.setCell (Ad b 0) a).setCell (Ad b 1) c).setCell (Ad b 2) e) p d m (.inl (b,#[a,c,e],t)::L):=((S.put 0 a).put 1 c).put 2 e
theorem Pr.als{x z:υ}(S:Pr o w p d m (.inl (b,#[x,r,z,y],t)::L))(a c e f:υ):Pr o ((((w.setCell (Ad b 0) a).setCell (Ad b 1) c).setCell (Ad b 2) e).setCell (Ad b 3) f) p d m (.inl (b,#[a,c,e,f],t)::L):=(((S.put 0 a).put 1 c).put 2 e).put 3 f
theorem Pr.must(s:Pr o w p d m L)(j:Nat)(i:Bool)(r:decide (bf m.tk=j)=i):Calls prog 77 #[π (σ (Ad p 0)),ι κ j] w λk w'=>
 k=τ (χ #[ι κ (bf m.tk),ι κ m.cE,θ (dC m.tk),ι κ (iQ m.tk)])/\Pr o w' p d (cond i m.aK (m.cQ 2)) L:=by
 obtain⟨q,S,fin⟩:=s.start;have R:((bf m.tk:Int) != j)=!i:=by rw[<- r,bne];congr 1;rw[jt];simp;omega
 clear r;go_in;go_wp21;refine(S.new #[ι κ 0,ι κ 0,θ ⟨#[]⟩,ι κ 0] 113).take.mono ?_;rintro k P ⟨rfl,c⟩;have u:=c.new #[ι κ (bf m.tk),ι κ m.cE,θ (dC m.tk),ι κ (iQ m.tk)] 113;have I:=c.at;cases i;(case' true=>obtain⟨y,A,B,C⟩:=eJ c.box;have z:=c.fz;go_wp2;have e:=(c.als (ι κ (bf m.tk)) (ι κ m.cE) (θ (dC m.tk)) (ι κ (iQ m.tk))).alloc (ξ #[ι κ (bf m.tk),ι κ m.cE,θ (dC m.tk),ι κ (iQ m.tk)] 113);generalize World.alloc (World.setCell _ _ _) _=WF at e ⊢);(case' false=>go_wp21;refine(u.refuse _ _ _ _).mono ?_;rintro k Q ⟨rfl,f⟩;rw[qU]at f;obtain⟨K,M,N,O⟩:=eJ f.box;obtain⟨y,A,B,C⟩:=eJ f.drop.box;have z:=f.drop.fz;go_wp2;have e:=f.drop.als (ι κ (bf m.tk)) (ι κ m.cE) (θ (dC m.tk)) (ι κ (iQ m.tk));generalize World.setCell _ _ _=WF at e ⊢);all_goals obtain⟨D,E,G,H⟩:=eJ e.box;(try simp only[Exit.inBlock,Exit.then]);refine aE (v:=_) (by simp[results,results77,go_sem,D,E,G,H];try rfl) rfl ?_;exact⟨rfl,fin [] e⟩
theorem Pr.sign(c:Pr o w p d m L)(f:m.tk.wf->m.is s=decide (bf m.tk=i)):Calls prog 77 #[π (σ (Ad p 0)),ι κ i] w λj w'=>
 j=τ (χ #[ι κ (bf m.tk),ι κ m.cE,θ (dC m.tk),ι κ (iQ m.tk)])/\Pr o w' p d (m.take s) L:=by have e:m.take s=cond (decide (bf m.tk=i)) m.aK (m.cQ 2):=(by unfold aD.take;rw[f c.wf];cases decide (bf m.tk=i)<;>rfl);rw[e];exact c.must i _ rfl
theorem Pr.aI(k:Pr o w p d m L):Calls prog 74 #[π (σ (Ad p 0))] w λj w'=>
 j=τ (χ #[θ (dC m.tk),ι κ m.cE])/\Pr o w' p d m.aI.2 L:=by obtain⟨q,S,fin⟩:=k.start;have i:cond (decide (bf m.tk=2)) m.aK (m.cQ 2)=m.aI.2:=(by rw[<- (oP m).1];by_cases r:bf m.tk=2<;>simp[r]);have f:=(S.new #[θ ⟨#[]⟩,ι κ 0] 117).must 2 _ rfl;rw[i]at f;clear i;go_in;go_wp21;refine f.mono ?_;rintro j C ⟨rfl,c⟩;obtain⟨A,B⟩:=gC c.box;have z:=c.fz;have y:=c.at;go_wp2;have e:=(c.Zs (θ (dC m.tk)) (ι κ m.cE)).alloc (ξ #[ι κ (bf m.tk),ι κ m.cE,θ (dC m.tk),ι κ (iQ m.tk)] 113);generalize World.alloc (World.setCell _ _ _) _=WF at e ⊢;obtain⟨s,u⟩:=gC e.box;(try simp only[Exit.inBlock,Exit.then]);refine aE (v:=_) (by simp[results,results74,go_sem,s,u];try rfl) rfl ?_;exact⟨rfl,fin [] e⟩
theorem U9(w:ω)(c:Nat):pB (w.alloc (ξ #[ι κ c] 111)) w.heap.size [c]:=λj i=>by
 have e:j=0:=by simp at i;omega
 subst e;have f:=az w (ξ #[ι κ c] 111);simp only[World.cell?,f];rfl
theorem Pr.Va(S:Pr o w p d m L)(c:Δ Nat)(g cap:Nat)(r:pB w g c)(s:Λ c<=100)(k:g<w.heap.size)(e:Bool)(i:decide (bf m.tk∈c)=e):Calls prog 106 #[π (σ (Ad p 0)),ψ (σ (Ad g 0)) (Λ c) cap] w λf w'=>
 f=τ (.bool e)/\Pr o w' p d m L:=by obtain⟨x,l,q,-⟩:=S.ex;refine(Zr q c g cap r s k).mono ?_;rintro f w' ⟨rfl,j⟩;rw[i];exact⟨rfl,S.aU j⟩
theorem Pr.is1(S:Pr o w p d m L)(c:Nat)(e:Bool)(f:decide (bf m.tk=c)=e):Calls prog 106 #[π (σ (Ad p 0)),ψ (σ (Ad w.heap.size 0)) 1 1] (w.alloc (ξ #[ι κ c] 111)) λi w'=>
 i=τ (.bool e)/\Pr o w' p d m L:=(S.alloc _).Va [c] w.heap.size 1 (U9 w c) (by simp) (by simp) e (by simpa using f)
theorem Pr.JB(j:Pr o w p d m L)(f:Nat)(c:Bool)(k:decide (bf m.tk=f)=c):Calls prog 109 #[π (σ (Ad p 0)),ι κ f] w λi w'=>
 i=τ (.bool c)/\Pr o w' p d (cond c m.aK m) L:=by obtain⟨q,S,fin⟩:=j.start;go_in;go_wp21;refine(S.is1 f c k).mono ?_;rintro i r ⟨rfl,e⟩;cases c;(case' true=>go_wp21;refine e.take.mono ?_;rintro i s ⟨rfl,e⟩);all_goals go_wp2;go_ret;exact⟨rfl,fin [] e⟩
end
def apH(s:Γ):Nat:=if gB.any (ct s)then 5+yC gB s else 21+yC cY s
def iI(s:Γ):Nat:=opsL.getD (apH s) 0
def Vb(k:Nat)(n:Int)(s:Γ):υ:=.iface 400 (χ #[ι κ k,.bool false,ι κ n,θ s])
def se:Ex->υ
 |.num n=>Vb 0 n ⟨#[]⟩
 |.str s=>Vb 1 0 s
 |.bool b=>Vb 2 (if b then 1 else 0) ⟨#[]⟩
 |.col s a=>.iface 117 (χ #[θ s,ι κ a])
 |.neg a x=>.iface 387 (χ #[ι κ 13,ι κ a,se x])
 |.not a x=>.iface 387 (χ #[ι κ 14,ι κ a,se x])
 |.lA no _ x=>.iface 389 (χ #[se x,.bool no])
 |.two op a x y=>.iface 369 (χ #[ι κ (iI op),ι κ a,se x,se y])
 |.junk=>Vb 0 0 ⟨#[]⟩
theorem uJ(c:Ex):∃t v,se c=.iface t v:=by cases c<;>exact⟨_,_,rfl⟩
theorem pB.keep{w w':ω}{p g:Nat}(f:pB w g e)(u:bu (Other p w) w w')(r:g≠p)(k:g<w.heap.size):pB w' g e:=λs j=>by
 have i:=u.block g ⟨r,k⟩;have c:=f s j;simp only[World.cell?]at c ⊢;rw[i];exact c
def iR(S:aD->Ex×aD):Prop:=∀m,(S m).2.len<=m.len
theorem qV{m:aD}:m.cZ↔1<=m.len:=by cases m with|live t f=>(exact⟨λ_=>by simp[aD.len],λ_=>trivial⟩)|dead e b=>exact⟨λc=>absurd c (λc=>c),λc=>by simp[aD.len]at c⟩
theorem iR.back{S:aD->Ex×aD}(c:iR S){m:aD}(e:(S m).2.cZ):m.cZ:=qV.mpr (ay (qV.mp e) (c m))
theorem sR(m:aD)(c:Nat):(m.cQ c).len<=m.len:=by rw[(qi (ez _ c)).1];exact aB _
theorem iR.chain{S:aD->Ex×aD}(e:iR S)(i:Δ Γ):∀n c m,(nh S i n c m).2.len<=m.len:=by intro n;induction n with|zero=>exactλc m=>ae _|succ n f=>intro c m;unfold nh;split;{exact ay (f _ _) (ay (e _) dX)};exact ae _
theorem iR.links{S:aD->Ex×aD}(c:iR S)(e:Δ Γ):iR (uM S e):=λm=>ay (c.chain e _ _ _) (c m)
def AG:Option BJ->Prop
 |none=>True
 |some l=>iR l.expr/\iR l.MY/\iR l.turn
theorem iR.atom{sub:Option BJ}(c:AG sub):iR (kO sub):=λm=>by
 unfold kO;split
 . cases sub with
   |none=>exact sR m 3
   |some l=>exact ay (take_len _ _) (ay (c.1 _) dX)
 . split
   . exact dX
   . exact dX
   . exact dX
   . split
     . exact dX
     . split
       . exact dX
       . exact sR m 2
   . exact sR m 2
theorem iR.turn{sub:Option BJ}(c:AG sub):iR (jL sub):=λm=>by
 unfold jL;split
 . cases sub with
   |none=>exact sR m 3
   |some l=>exact ay (c.2.2 _) dX
 . exact iR.atom c m
theorem iR.part{sub:Option BJ}(c:AG sub):iR (BK sub):=(iR.turn c).links _
theorem iR.total{sub:Option BJ}(c:AG sub):iR (gU sub):=(iR.part c).links _
theorem iR.test{sub:Option BJ}(e:AG sub):iR (pH sub):=λm=>by
 have c:=iR.total e;unfold pH;simp only;split
 . exact ay (c _) (ay dX (c m))
 . split
   . refine ay (take_len _ _) (ay ?_ (c m))
     split
     . exact ay dX dX
     . exact dX
   . exact c m
theorem iR.MY{sub:Option BJ}(c:AG sub):iR (jQ sub):=λm=>by
 unfold jQ;split
 . cases sub with
   |none=>exact sR m 3
   |some l=>exact ay (c.2.1 _) dX
 . exact iR.test c m
theorem iR.both{sub:Option BJ}(c:AG sub):iR (BL sub):=(iR.MY c).links _
theorem iR.expr{sub:Option BJ}(c:AG sub):iR (ny sub):=(iR.both c).links _
theorem C0:∀d,AG (lvl d)
 |0=>trivial
 |d+1=>⟨iR.expr (C0 d),iR.MY (C0 d),iR.turn (C0 d)⟩
theorem Rs(m:aD):(oL m).2.len<=m.len:=iR.expr (C0 8) m
def JC(L:Δ (Γ×Nat)):Prop:=∀m:aD,m.tk.wf->∀q∈L,m.is q.1=decide (bf m.tk=q.2)/\opsL[q.2]?=σ (iI q.1)
theorem JD{L:Δ (Γ×Nat)}(i:JC L){m:aD}(hw:m.tk.wf) :
 (bf m.tk∈L.map (·.2)->∃o,(L.map (·.1)).find? (λo=>m.is o)=σ o/\opsL[bf m.tk]?=σ (iI o)/\m.is o=true)/\(¬bf m.tk∈L.map (·.2)->(L.map (·.1)).find? (λo=>m.is o)=ν):=by induction L with|nil=>(exact⟨λi=>by simp at i,λ_=>rfl⟩)|cons q L s=>have f:=i m hw q (by simp);have r:=s (λm e q f=>i m e q (eT _ f));simp only[List.map_cons,List.mem_cons,List.find?_cons];by_cases c:bf m.tk=q.2;{have j:m.is q.1=true:=(by rw[f.1];simpa using c);refine⟨λ_=>⟨q.1,by rw[j],by rw[c];exact f.2,j⟩,λk=>absurd (Or.inl c) k⟩};have j:m.is q.1=false:=(by rw[f.1];simpa using c);rw[j];refine⟨λe=>r.1 (e.resolve_left c),λk=>r.2 (λe=>k (.inr e))⟩
theorem JE{m:aD}(c:m.aK.cZ):m.cZ:=by cases m with|live t f=>trivial|dead e b=>exact c
def Each{α β:Type}(P:α->β->Prop):Δ α->Δ β->Prop
 |[],[]=>True
 |a::u,b::v=>P a b/\Each P u v
 |_,_=>False
theorem Each.mono{j r:Type}{f i:j->r->Prop}:∀{e:Δ j} {v:Δ r},Each f e v->(∀a∈e,∀b,f a b->i a b)->Each i e v
 |[],[],_,_=>trivial
 |_::_,_::_,c,k=>⟨k _ (by simp) _ c.1,Each.mono c.2 (λa s b=>k a (eT _ s) b)⟩
 |[],_::_,c,_=>absurd c (λc=>c)
 |_::_,[],c,_=>absurd c (λc=>c)
theorem Each.snoc{f i:Type}{e:f->i->Prop}{a:f}{b:i}:∀{j:Δ f} {v:Δ i},Each e j v->e a b->Each e (j++[a]) (v++[b])
 |[],[],_,Mv=>⟨Mv,trivial⟩
 |_::_,_::_,c,Mv=>⟨c.1,Each.snoc c.2 Mv⟩
 |[],_::_,c,_=>absurd c (λc=>c)
 |_::_,[],c,_=>absurd c (λc=>c)
theorem Each.len{f i:Type}{j:f->i->Prop}:∀{e:Δ f} {v:Δ i},Each j e v->Λ e=Λ v
 |[],[],_=>rfl
 |_::_,_::_,c=>by simp[Each.len c.2]
 |[],_::_,c=>absurd c (λc=>c)
 |_::_,[],c=>absurd c (λc=>c)
def Zt(a:Nat×υ):Δ υ:=[ι κ a.1,a.2]
def Cf(l:Δ (Nat×υ)):Δ υ:=l.flatMap Zt
theorem Vc(l:Δ (Nat×υ))(a:Nat×υ):Cf (l++[a])=Cf l++Zt a:=by simp[Cf]
theorem Fx{m:aD}(c:(oL m).2.cZ):m.cZ:=iR.back (iR.expr (C0 8)) c
def Vd(v:υ):Prop:=v=.nilIface\/∃t u,v=.iface t u
theorem Zu{e:Type}(one:aD->e×aD)(n:Nat)(l:Δ e)(c b:Nat):lF one n l (.dead c b)=(l,.dead c b):=by cases n<;>rfl
theorem Zv{e:Type}{one:aD->e×aD}{m:aD}{b:Nat}(c:(one m).2=.dead i b):(de one m).2=.dead i b:=by unfold de;rw[c,Zu]
theorem C4(m:aD)(c:Nat):∃a b,m.cQ c=.dead a b:=by cases m with|live t e=>exact⟨c,t.pl,rfl⟩|dead a b=>exact⟨a,b,rfl⟩
theorem back{m m':aD}(c:m'.len<=m.len)(e:m'.cZ):m.cZ:=qV.mpr (ay (qV.mp e) c)
theorem j8{m:aD}(c:(m.take s).cZ):m.cZ:=back (take_len m s) c
theorem MK{f:Type}{one:aD->f×aD}(c:∀m,(one m).2.len<=m.len){m:aD}(e:(de one m).2.cZ):m.cZ:=back (py c m) e
def koF:Ex->Nat
 |.col _ _=>260
 |.neg _ _=>360
 |.not _ _=>360
 |.lA _ _ _=>361
 |.two _ _ _ _=>357
 |_=>362
def zO(e:Ex):υ:=match se e with
 |.iface _ v=>v
 |v=>v
def Fy(r:Ending):Nat ⊕ (Nat×Nat)->Prop
 |.inl k=>r=τ (.tuple #[ι κ (k:Nat),χ #[ι κ 0,ι κ 0]])
 |.inr q=>∃k:Nat,r=τ (.tuple #[ι κ k,χ #[ι κ q.1,ι κ q.2]])
theorem Bl(c:Ex):∃f,se c=.iface f (zO c)/\(∀w,Sem.run prog (method 576 f (zO c) "quarry/quarry.kindOver") w=.ok (koF c,zO c) w)/\(∀(e:Array υ) (w:ω),Sem.run prog (callFunc (koF c) e) w=.ok (.enter (koF c) e) w):=by cases c with|num n=>(exact⟨_,rfl,λw=>by kernel_rfl,call362⟩)|str n=>(exact⟨_,rfl,λw=>by kernel_rfl,call362⟩)|bool n=>(exact⟨_,rfl,λw=>by kernel_rfl,call362⟩)|junk=>(exact⟨_,rfl,λw=>by kernel_rfl,call362⟩)|col k a=>(exact⟨_,rfl,λw=>by kernel_rfl,call260⟩)|neg a x=>(exact⟨_,rfl,λw=>by kernel_rfl,call360⟩)|not a x=>(exact⟨_,rfl,λw=>by kernel_rfl,call360⟩)|lA i a x=>(exact⟨_,rfl,λw=>by kernel_rfl,call361⟩)|two j a x r=>exact⟨_,rfl,λw=>by kernel_rfl,call357⟩
def GL(cy:Δ bU)(cv:υ)(e:Ex):Prop:=∀w,eK w cv cy->Calls prog (koF e) #[zO e,cv] w λr w'=>Fy r (dp cy e)/\δ w.heap.size w w'
theorem apI{a b a' b':υ}{t:TypeId}(c:k.heap[i]?=σ (ξ #[a,b] t (0,0)))(o:Obj):(((k.setCell ⟨i,0,ν⟩ a').setCell ⟨i,1,ν⟩ b').alloc o).cell? ⟨i,0,ν⟩=σ a'/\(((k.setCell ⟨i,0,ν⟩ a').setCell ⟨i,1,ν⟩ b').alloc o).cell? ⟨i,1,ν⟩=σ b':=by refine fW (t:=t) ((dA _ _ _ ?_).trans (bq _ _ 1 _ _ _ (bq _ _ 0 _ _ _ c)));simpa[World.setCell]using aA c
section
variable {cy:Δ bU} {cv:υ}
theorem agU{e:Bool}{a:Nat}{x:Ex}(T:GL cy cv x):GL cy cv (.lA e a x):=by
 intro w y;obtain⟨r,M,hm,aa⟩:=Bl x;obtain⟨W,j⟩:=nm ((w.alloc (obW (.iface r (zO x)) e)).alloc (nP 0 0));have u:=zS j;have D:W.heap[w.heap.size+1]?=σ (nP 0 0):=by rw[j];have:=az (w.alloc (obW (.iface r (zO x)) e)) (nP 0 0);simpa using this
 have O:W.heap[w.heap.size]?=σ (obW (.iface r (zO x)) e):=by rw[j];exact(dA _ _ _ (by simp)).trans (az w (obW (.iface r (zO x)) e))
 have I:=T W (y.aU u (ae _));have B:=u;have C:=ak D;have K:=ak j;obtain⟨va,Z,Q⟩:=y.slice;subst Q;show Calls prog 361 #[χ #[se x,.bool e],_] w _;rw[M];clear y u D j O;go_in;go_wp21;rw[<- K.J];refine I.mono ?_;rintro U Y ⟨c,s⟩;have f:=(s.block _ (aA C.J)).trans C.J;have R:=B.trans (s.mono B.size);have H:=aA f;obtain⟨i,b,G,E,P⟩:∃(i b G:Nat),Fy (τ (.tuple #[ι κ 2,χ #[ι κ i,ι κ b]])) (dp cy (.lA e a x))/\U=τ (.tuple #[ι κ G,χ #[ι κ i,ι κ b]]):=(by cases hk:dp cy x with|inl A=>(rw[hk]at c;exact⟨0,0,A,by simp only[dp,hk];rfl,c⟩)|inr q=>rw[hk]at c;obtain⟨A,c⟩:=c;exact⟨q.1,q.2,A,by simp only[dp,hk];exact⟨2,rfl⟩,c⟩);subst P;have N:=E;have k:=(dA Y (nP i b) _ H).trans f;obtain⟨q0,q1⟩:=fW k;have z0:=cF k 0;have z1:=cF k 1;obtain⟨p0,p1⟩:=fW f;obtain⟨V,X⟩:=apI (a':=ι κ (i:Nat)) (b':=ι κ (b:Nat)) f (nP i b);have y0:=cF f 0;have y1:=cF f 1;clear s c E f k;go_wp2;go_region;all_goals (try go_wp2);(try simp only[Exit.inBlock,Exit.then]);refine aE (by simp[results,results361,go_sem,V,X];rfl) rfl ?_;exact⟨N,by repeat(first|exact R|refine aP ?_|refine below_drewN ?_ _|refine fx ?_ (by simp) _|refine gw ?_ (by simp;omega) _)⟩
end
theorem Ve{cy:Δ bU}{s:Γ}:(∀e,wP cy s=σ e->∃c,cy[e]?=σ c/\cy.find? (λc=>ct c.1 s)=σ c)/\(wP cy s=ν->cy.find? (λc=>ct c.1 s)=ν):=by unfold wP;constructor;{intro e j;rw[aR]at j;obtain⟨f,k,r⟩:=j;refine⟨cy[e],af f,?_⟩;rw[sT];exact⟨k,e,f,rfl,λA y=>by simpa using r A y⟩};intro i;rw[eA]at i;rw[vt];intro c u;simp[i c u]
theorem Od(c:Nat)(n:Int)(f:Γ)(cv:υ)(w:ω):Calls prog 362 #[χ #[ι κ c,.bool false,ι κ n,θ f],cv] w λe w'=>e=τ (.tuple #[ι κ c,χ #[ι κ 0,ι κ 0]])/\δ w.heap.size w w':=by go_in;go_wp2;(try simp only[Exit.inBlock,Exit.then]);refine aE (by simp[results,results362,go_sem];rfl) rfl ?_;exact⟨rfl,((aj _ _).alloc (ae _) _).alloc (by simp) _⟩
theorem alv(cy:Δ bU)(cv:υ)(U:Λ cy<=100000)(c:Γ)(a:Nat):GL cy cv (.col c a):=by
 intro w r;have⟨W,f⟩:=nm ((w.alloc (obU c a)).alloc (nP 0 0));have k:=zS f;have P:W.heap[w.heap.size+1]?=σ (nP 0 0):=by rw[f];have:=az (w.alloc (obU c a)) (nP 0 0);simpa using this
 have Q:W.heap[w.heap.size]?=σ (obU c a):=by rw[f];exact(dA _ _ _ (by simp)).trans (az w (obU c a))
 have K:=Hf cy cv c W (r.aU k (ae _)) U;have I:=r.aU k (ae _);have y:=k;have A:=ak P;have B:=ak Q;have M:=ak f;have⟨va,eH,V⟩:=r.slice;subst V;show Calls prog 260 #[χ #[θ c,ι κ a],_] w _;go_in;go_wp21;rw[<- M.J];refine K.mono ?_;rintro aa w1 ⟨rfl,e⟩;have i:=(e.block _ (aA A.J)).trans A.J;have N:=(e.block _ (aA B.J)).trans B.J;have D:=y.trans (e.mono y.size);have⟨G,H⟩:=fW i;have y0:=cF i 0;have y1:=cF i 1;have⟨s0,s1⟩:=fW N;have X:=ak i;have C:=Ve (cy:=cy) (s:=c);cases KO:wP cy c with|none=>(have s:mI cy c=-1:=(by unfold mI;rw[KO]);have j:=(show Fy (τ (.tuple #[ι κ (0:Nat),χ #[ι κ (5:Nat),ι κ a]])) (dp cy (.col c a))from by simp only[dp,C.2 KO];exact⟨0,rfl⟩);rw[s];go_wp2;go_region;all_goals (try go_wp2);(try simp only[Exit.inBlock,Exit.then]);refine aE (by simp[results,results260,go_sem,G,H];rfl) rfl ?_;exact⟨j,by repeat(first|exact D|refine aP ?_|refine below_drewN ?_ _|refine fx ?_ (by simp) _|refine gw ?_ (by simp;omega) _)⟩)|some u=>have s:mI cy c=(u:Nat):=(by unfold mI;rw[KO]);have⟨O,E,T⟩:=C.1 u KO;have Y:(u:Int)<Λ cy:=(by have:=(ah.mp E).1;omega);have⟨cg,co,Z,R,d0,d1⟩:=(I.aU e (ae _)).get E;cases R;have j:=(show Fy (τ (.tuple #[ι κ O.2,χ #[ι κ 0,ι κ 0]])) (dp cy (.col c a))from by simp only[dp,T];rfl);rw[s];go_wp2;(try go_region);all_goals (try go_wp2);(try simp only[Exit.inBlock,Exit.then]);refine aE (by simp[results,results260,go_sem,G,H];rfl) rfl ?_;exact⟨j,by repeat(first|exact D|refine aP ?_|refine below_drewN ?_ _|refine fx ?_ (by simp) _|refine gw ?_ (by simp;omega) _)⟩
theorem Rt(cy:Δ bU):∀(f:Ex) {q:Nat×Nat},dp cy f=.inr q->¬q.1=0/\(q.1=5\/q.1=7):=by intro f;induction f with|num n=>(intro q c;cases c)|str n=>(intro q c;cases c)|bool n=>(intro q c;cases c)|junk=>(intro q c;cases c)|col s a=>(intro q c;simp only[dp]at c;split at c;{cases c};cases c;exact⟨by simp,.inl rfl⟩)|lA r a x e=>(intro q c;simp only[dp]at c;split at c;{cases c;exact e (by assumption)};cases c)|neg a x e=>(intro q c;simp only[dp]at c;split at c;{cases c;exact e (by assumption)};split at c;{cases c};cases c;exact⟨by simp,.inr rfl⟩)|not a x e=>(intro q c;simp only[dp]at c;split at c;{cases c;exact e (by assumption)};split at c;{cases c};cases c;exact⟨by simp,.inr rfl⟩)|two k a x u i j=>intro q c;simp only[dp]at c;split at c;{cases c;exact i (by assumption)};split at c;{cases c;exact j (by assumption)};generalize (if pP k=true then(0:Nat)else 2)=wt at c;split at c;{cases c;exact⟨by simp,.inr rfl⟩};cases c
theorem Ev{cy:Δ bU}{x:Ex}{i:Ending}(c:Fy i (dp cy x)):∃(e f b:Nat),i=τ (.tuple #[ι κ e,χ #[ι κ f,ι κ b]])/\((f=0/\b=0/\dp cy x=.inl e)\/(f≠0/\dp cy x=.inr (f,b))):=by cases hk:dp cy x with|inl e=>rw[hk]at c;exact⟨e,0,0,c,.inl ⟨rfl,rfl,rfl⟩⟩|inr q=>rw[hk]at c;obtain⟨e,c⟩:=c;exact⟨e,q.1,q.2,c,.inr ⟨(Rt cy x hk).1,rfl⟩⟩
theorem adg{cy:Δ bU}{cv:υ}{a O:Nat}{x:Ex}{j:Nat ⊕ (Nat×Nat)}(aa:(O=13/\i=0)\/(O=14/\i=2))(I:j=match dp cy x with|.inr c=>.inr c|.inl ab=>if ab=i then .inl i else .inr (7,a))(ih:GL cy cv x)(w:ω)(D:eK w cv cy):Calls prog 360 #[χ #[ι κ O,ι κ a,se x],cv] w λM w'=>Fy M j/\δ w.heap.size w w':=by
 obtain⟨E,Hh,hm,ag⟩:=Bl x;obtain⟨W,s⟩:=nm ((w.alloc (obZ O a (.iface E (zO x)))).alloc (nP 0 0));have e:=zS s;have Z:W.heap[w.heap.size+1]?=σ (nP 0 0):=by rw[s];have:=az (w.alloc (obZ O a (.iface E (zO x)))) (nP 0 0);simpa using this
 have hS:W.heap[w.heap.size]?=σ (obZ O a (.iface E (zO x))):=by rw[s];exact(dA _ _ _ (by simp)).trans (az w (obZ O a (.iface E (zO x))))
 have HI:=ih W (D.aU e (ae _));have HC:=D.aU e (ae _);have G:=e;have P:=ak Z;have Q:=ak hS;have HW:=ak s;obtain⟨va,eH,hv⟩:=D.slice;subst hv;rcases aa with⟨Y,X⟩|⟨Y,X⟩
 all_goals
  (try have ac:((O:Int)==13)=true:=by rw[dR];omega);(try have ac:((O:Int)==13)=false:=by rw[aY];omega);(try have ad:((O:Int)==14)=true:=by rw[dR];omega);(try have ad:((O:Int)==14)=false:=by rw[aY];omega);clear Y;clear D e Z s hS;rw[Hh];go_in;go_wp21;rw[<- HW.J];refine HI.mono ?_;rintro M f ⟨hr,k⟩;obtain⟨y,c,b,rfl,rL⟩:=Ev hr;have N:=(k.block _ (aA P.J)).trans P.J;have H:=(k.block _ (aA Q.J)).trans Q.J;have EL:=aA N;have C:δ f.heap.size f (f.alloc (nP c b)):=(aj _ _).alloc (ae _) _;have T:=ak ((C.block _ EL).trans N);have LH:=ak ((C.block _ (aA H)).trans H);have HF:=tw c b (f.alloc (nP c b));have HG:=ak (az f (nP c b));have U:=(G.trans (k.mono G.size)).trans (C.mono (ay G.size k.size));have kV:w.heap.size+1<(f.alloc (nP c b)).heap.size:=aA T.J;clear hr k N H C;go_wp21;refine HF.mono ?_;rintro M w3 ⟨rfl,r⟩;have B:=(r.block _ kV).trans T.J;have R:=(r.block _ (by omega)).trans LH.J;have V:=(r.block _ (by simp)).trans HG.J;have iP:=U.trans (r.mono U.size);obtain⟨p0,p1⟩:=fW B;have y0:=cF B 0;have y1:=cF B 1;obtain⟨s0,s1,s2⟩:=oh R;obtain⟨g0,g1⟩:=fW V;clear r B R V;rcases rL with⟨K,e,u⟩|⟨K,u⟩
  (case' inr=>have A:=(show Fy (τ (.tuple #[ι κ (0:Nat),χ #[ι κ c,ι κ b]])) j from by rw[I,u];exact⟨0,rfl⟩);rw[show decide (c≠0)=true by simpa using K]);(case' inl=>subst K;subst e;rw[show decide ((0:Nat)≠0)=false from rfl];by_cases hw:y=i;(case' pos=>have A:=(show Fy (τ (.tuple #[ι κ (i:Nat),χ #[ι κ 0,ι κ 0]])) j from by rw[I,u];simp only[hw,if_true];rfl);rw[X]at A;(try have qP:((y:Int) != 0)=false:=by rw[nC];omega);(try have qP:((y:Int) != 2)=false:=by rw[nC];omega));(case' neg=>have A:=(show Fy (τ (.tuple #[ι κ (0:Nat),χ #[ι κ (7:Nat),ι κ a]])) j from by rw[I,u];simp only[hw,if_false];exact⟨0,rfl⟩);(try have qP:((y:Int) != 0)=true:=by rw[dZ];omega);(try have A7:((y:Int) != 2)=true:=by rw[dZ];omega));all_goals clear hw);all_goals clear u;go_wp2;(try go_region);all_goals (try go_wp2);refine aE (by simp[results,results360,go_sem,p0,p1];rfl) rfl ?_;exact⟨A,by repeat(first|exact iP|refine aP ?_|refine below_drewN ?_ _|refine fx ?_ (by simp) _|refine gw ?_ (by simp;omega) _)⟩
theorem alw{cy:Δ bU}{cv:υ}{a:Nat}{x:Ex}(e:GL cy cv x):GL cy cv (.neg a x):=λw c=>adg (O:=13) (.inl ⟨rfl,rfl⟩) rfl e w c
theorem alx{cy:Δ bU}{cv:υ}{a:Nat}{x:Ex}(e:GL cy cv x):GL cy cv (.not a x):=λw c=>adg (O:=14) (.inr ⟨rfl,rfl⟩) rfl e w c
def kdK(o:Nat):Nat:=if o<=4 then 0 else 2
def kdT(o l r:Nat):Bool:=if o<=4 then decide (l=0/\r=0)else if 11<=o then decide (l=2/\r=2)else decide (l=r)
theorem agV:∀c∈qD,pP c=decide (iI c<=4)/\jm c=decide (5<=iI c/\iI c<=10)/\iI c<=12:=by decide
theorem adh(l c:Nat):((l:Int)==(c:Nat))=decide (l=c):=by by_cases e:l=c;{simp[e]};rw[aV e,aY];omega
theorem alA(o l c:Nat)(I:o<=12)(w:ω):Calls prog 358 #[ι κ o,ι κ l,ι κ c] w λs w'=>s=τ (.tuple #[ι κ (kdK o),.bool (kdT o l c)])/\δ w.heap.size w w':=by
 by_cases j:o<=4
 .have y:o=0\/o=1\/o=2\/o=3\/o=4:=by omega
  rw[show kdT o l c=decide (l=0/\c=0)from aN j,show kdK o=0 from aN j];rcases y with rfl|rfl|rfl|rfl|rfl<;>rcases pG (l=0)with e|e<;>rcases pG (c=0)with f|f<;>(
   have i:((l:Int)==(0:Nat))=decide (l=0):=adh _ _
   (first|rw[cJ e]at i|rw[aV e]at i)
   have k:((c:Int)==(0:Nat))=decide (c=0):=adh _ _
   (first|rw[cJ f]at k|rw[aV f]at k)
   go_in;go_wp2
   (try go_region)
   all_goals
    (try go_wp2)
    refine aE (v:=.tuple #[ι κ 0,.bool (decide (l=0/\c=0))]) (by simp[results,results358,go_sem,e,f];try first|omega|rfl) rfl ?_;exact⟨rfl,by repeat(first|exact aj _ _|refine aP ?_)⟩)
 by_cases r:11<=o
 .have u:o=11\/o=12:=by omega
  rw[show kdT o l c=decide (l=2/\c=2)from(aH j).trans (aN r),show kdK o=2 from aH j];rcases u with rfl|rfl<;>rcases pG (l=2)with e|e<;>rcases pG (c=2)with f|f<;>(
   have i:((l:Int)==(2:Nat))=decide (l=2):=adh _ _
   (first|rw[cJ e]at i|rw[aV e]at i)
   have k:((c:Int)==(2:Nat))=decide (c=2):=adh _ _
   (first|rw[cJ f]at k|rw[aV f]at k)
   go_in;go_wp2
   (try go_region)
   all_goals
    (try go_wp2)
    refine aE (v:=.tuple #[ι κ 2,.bool (decide (l=2/\c=2))]) (by simp[results,results358,go_sem,e,f];try first|omega|rfl) rfl ?_;exact⟨rfl,by repeat(first|exact aj _ _|refine aP ?_)⟩)
 skip;have A:((o:Int)==0)=false:=by rw[aY];omega
 have B:((o:Int)==1)=false:=by rw[aY];omega
 have E:((o:Int)==2)=false:=by rw[aY];omega
 have G:((o:Int)==3)=false:=by rw[aY];omega
 have H:((o:Int)==4)=false:=by rw[aY];omega
 have C:((o:Int)==11)=false:=by rw[aY];omega
 have D:((o:Int)==12)=false:=by rw[aY];omega
 rw[show kdT o l c=decide (l=c)from(aH j).trans (aH r),show kdK o=2 from aH j];rcases pG (l=c)with e|e<;>(
  have i:((l:Int)==(c:Nat))=decide (l=c):=adh _ _
  (first|rw[cJ e]at i|rw[aV e]at i)
  go_in;go_wp2
  (try go_region)
  all_goals
   (try go_wp2)
   refine aE (v:=.tuple #[ι κ 2,.bool (decide (l=c))]) (by simp[results,results358,go_sem,e];try first|omega|rfl) rfl ?_;exact⟨rfl,by repeat(first|exact aj _ _|refine aP ?_)⟩)
theorem alB{cy:Δ bU}{cv:υ}{a:Nat}{x c:Ex}(qe:s∈qD)(SE:GL cy cv x)(SF:GL cy cv c):GL cy cv (.two s a x c):=by
 intro w hc;obtain⟨E,hx,DH,a4⟩:=Bl x;obtain⟨G,hy,a6,a5⟩:=Bl c;obtain⟨a1,a2,a3⟩:=agV s qe;obtain⟨W,O⟩:=nm ((w.alloc (obT (iI s) a (.iface E (zO x)) (.iface G (zO c)))).alloc (nP 0 0));have j:=zS O;have hR:W.heap[w.heap.size+1]?=σ (nP 0 0):=by rw[O];have:=az (w.alloc (obT (iI s) a (.iface E (zO x)) (.iface G (zO c)))) (nP 0 0);simpa using this
 have hS:W.heap[w.heap.size]?=σ (obT (iI s) a (.iface E (zO x)) (.iface G (zO c))):=by rw[O];exact(dA _ _ _ (by simp)).trans (az w (obT (iI s) a (.iface E (zO x)) (.iface G (zO c))))
 have HI:=SE W (hc.aU j (ae _));have HC:=hc.aU j (ae _);have T:=j;have HR:=ak hR;have HS:=ak hS;have HW:=ak O;obtain⟨va,eH,hv⟩:=hc.slice;subst hv;show Calls prog 357 #[χ #[ι κ (iI s),ι κ a,se x,se c],_] w _;have HK:=ak (λl r=>alA (iI s) l r a3);have ar:=ak (λ(D C:Nat) (h1:dp cy x=.inl D) (h2:dp cy c=.inl C)=>(show dp cy (.two s a x c)=if kdT (iI s) D C then .inl (kdK (iI s))else .inr (7,a)from by
  simp only[dp,h1,h2,a1,a2];unfold kdT kdK;by_cases X:iI s<=4
  . simp only[X,decide_true,if_true]
    by_cases f:D=0<;>by_cases hj:C=0<;>simp[f,hj]<;>omega
  . by_cases al:11<=iI s
    . have:¬(5<=iI s/\iI s<=10):=by omega
      simp only[X,al,this,decide_false,if_true];by_cases f:D=2<;>by_cases hj:C=2<;>simp[f,hj]<;>omega
    . have:5<=iI s/\iI s<=10:=by omega
      simp only[X,al,this,decide_false];by_cases f:D=C<;>simp[f]))
 rw[hx,hy];go_in;go_wp21;rw[<- HW.J];refine HI.mono ?_;rintro r i ⟨hr,A⟩;obtain⟨k1,e,b,rfl,rL⟩:=Ev hr;have zM:=(A.block _ (aA HR.J)).trans HR.J;have Oe:=(A.block _ (aA HS.J)).trans HS.J;have EL:=aA zM;have K:δ i.heap.size i (i.alloc (nP e b)):=(aj _ _).alloc (ae _) _;have SP:=ak ((K.block _ EL).trans zM);have LH:=ak ((K.block _ (aA Oe)).trans Oe);have HF:=tw e b (i.alloc (nP e b));have HG:=ak (az i (nP e b));have fM:=(T.trans (A.mono T.size)).trans (K.mono (ay T.size A.size));have tH:=(HC.aU A (ae _)).aU K (ae _);have kV:w.heap.size+1<(i.alloc (nP e b)).heap.size:=aA SP.J;go_wp21;refine HF.mono ?_;rintro r w3 ⟨rfl,B⟩;have I:=(B.block _ kV).trans SP.J;have JF:=(B.block _ (by omega)).trans LH.J;have Y:=(B.block _ (by simp)).trans HG.J;have iP:=fM.trans (B.mono fM.size);obtain⟨p0,p1⟩:=fW I;have y0:=cF I 0;have y1:=cF I 1;obtain⟨s0,s1,s2,s3⟩:=kJ JF;obtain⟨g0,g1⟩:=fW Y;have KI:=ak I;have ad:=ak JF;have HY:=SF w3 (tH.aU B (ae _));rcases rL with⟨k,j,f⟩|⟨k,f⟩
 (case' inr=>have H:=(show Fy (τ (.tuple #[ι κ (0:Nat),χ #[ι κ e,ι κ b]])) (dp cy (.two s a x c))from by simp only[dp,f];exact⟨0,rfl⟩);have U:=iP;rw[show decide (e≠0)=true by simpa using k]);case' inl=>
  subst k;subst j;have hd:decide ((0:Nat)≠0)=false:=rfl;rw[hd];have DL:=ak f;go_wp21;refine HY.mono ?_;rintro r w4 ⟨hr,P⟩;obtain⟨k2,e,b,rfl,rL⟩:=Ev hr;have a0:=aA Y;have ax:=(P.block _ (aA KI.J)).trans KI.J;have aC:=(P.block _ (aA ad.J)).trans ad.J;have M:=(P.block _ a0).trans Y;have PL:=iP.trans (P.mono iP.size);have ai:w.heap.size+1≠i.heap.size:=by omega
  have ag:w.heap.size≠i.heap.size:=by omega
  obtain⟨y,u⟩:=nm ((w4.setCell ⟨i.heap.size,0,ν⟩ (ι κ e)).setCell ⟨i.heap.size,1,ν⟩ (ι κ b));have A7:δ w.heap.size w y:=by rw[u];exact(PL.setCell (p:=⟨i.heap.size,0,ν⟩) (by simp;omega) _).setCell (p:=⟨i.heap.size,1,ν⟩) (by simp;omega) _
  have ab:=ak (show y.heap[w.heap.size+1]?=σ (nP 0 0)from by rw[u];exact(aL _ _ _ _ ai).trans ((aL _ _ _ _ ai).trans ax));have Kl:=ak (show y.heap[w.heap.size]?=σ (obT (iI s) a (.iface E (zO x)) (.iface G (zO c)))from by rw[u];exact(aL _ _ _ _ ag).trans ((aL _ _ _ _ ag).trans aC));have aa:=ak (show y.heap[i.heap.size]?=σ (nP e b)from by rw[u];exact bq _ _ 1 _ _ _ (bq _ _ 0 _ _ _ M));have ao:=tw e b y;have ap:=ak u;obtain⟨g0,g1⟩:=fW M;have f0:=cF M 0;have f1:=cF M 1;go_wp21;rw[<- ap.J];refine ao.mono ?_;rintro r w6 ⟨rfl,Q⟩;have N:=(Q.block _ (aA ab.J)).trans ab.J;have am:=(Q.block _ (aA Kl.J)).trans Kl.J;have av:=(Q.block _ (aA aa.J)).trans aa.J;have R:=A7.trans (Q.mono A7.size);obtain⟨p0,p1⟩:=fW N;have y0:=cF N 0;have y1:=cF N 1;obtain⟨s0,s1,s2,s3⟩:=kJ am;obtain⟨g0,g1⟩:=fW av;have ac:=ak N;have OM:=ak am;rcases rL with⟨k,j,f⟩|⟨k,f⟩
  (case' inr=>have H:=(show Fy (τ (.tuple #[ι κ (0:Nat),χ #[ι κ e,ι κ b]])) (dp cy (.two s a x c))from by simp only[dp,DL.J,f];exact⟨0,rfl⟩);have U:=R;rw[show decide (e≠0)=true by simpa using k]);case' inl=>subst k;subst j;have hd:decide ((0:Nat)≠0)=false:=rfl;rw[hd];have TB:=ar.J k1 k2 DL.J f;go_wp21;refine(HK.J _ _ _).mono ?_;rintro r w7 ⟨rfl,V⟩;have Z:=(V.block _ (aA ac.J)).trans ac.J;have aT:=(V.block _ (aA OM.J)).trans OM.J;have an:=R.trans (V.mono R.size);obtain⟨p0,p1⟩:=fW Z;have y0:=cF Z 0;have y1:=cF Z 1;obtain⟨s0,s1,s2,s3⟩:=kJ aT;have U:=an;cases ht:kdT (iI s) k1 k2;(case' true=>have H:=(show Fy (τ (.tuple #[ι κ (kdK (iI s)),χ #[ι κ 0,ι κ 0]])) (dp cy (.two s a x c))from by rw[TB,ht];rfl));case' false=>have H:=(show Fy (τ (.tuple #[ι κ (0:Nat),χ #[ι κ (7:Nat),ι κ a]])) (dp cy (.two s a x c))from by rw[TB,ht];exact⟨0,rfl⟩)
 all_goals go_wp2;(try go_region);all_goals (try go_wp2);refine aE (by simp[results,results357,go_sem,p0,p1];rfl) rfl ?_;exact⟨H,by repeat(first|exact U|refine aP ?_|refine below_drewN ?_ _|refine fx ?_ (by simp) _|refine gw ?_ (by simp;omega) _)⟩
theorem alC{cy:Δ bU}{cv:υ}(r:Λ cy<=100000):∀(f:Ex),tS f->GL cy cv f:=by intro f;induction f with|num n=>exactλ_ w _=>Od 0 n ⟨#[]⟩ cv w|str i=>exactλ_ w _=>Od 1 0 i cv w|bool b=>(exactλ_ w _=>Od 2 (if b then 1 else 0) ⟨#[]⟩ cv w)|junk=>exactλ_ w _=>Od 0 0 ⟨#[]⟩ cv w|col i a=>exactλ_=>alv cy cv r i a|neg a x e=>exactλc=>alw (e c)|not a x e=>exactλc=>alx (e c)|lA s a x e=>exactλc=>agU (e c)|two u a x y j k=>exactλc=>alB c.1 (j c.2.1) (k c.2.2)
theorem Tryz.ZG:(prog.info? 117).map (λc=>(c.zero,c.size,c.bytes))=σ (σ (χ #[θ ByteArray.empty,ι κ 0]),2,24):=by kernel_rfl
theorem Tryz.RE:(prog.info? 213).map (λc=>(c.zero,c.size,c.bytes))=σ (σ (χ #[θ ByteArray.empty,ι κ 0,ι κ 0]),3,32):=by kernel_rfl
theorem Tryz.Vl:(prog.info? 292).map (λc=>(c.zero,c.size,c.bytes))=σ (σ (χ #[ι κ 0,ι κ 0,.bool false,ι κ 0,θ ByteArray.empty]),5,48):=by kernel_rfl
theorem RF{v:υ}{a:Nat}(e:lenOf r=a+1)(c:lenOf v=a)(f:a<2000):2000 - lenOf r<2000 - lenOf v:=by rw[e,c];omega
section
variable {o:ω×Option Nat} {w w':ω} {p d:Nat} {m:aD} {L:Δ It}
theorem Pr.alM(S:Pr o w p d m L):m.len<=400:=by obtain⟨x,l,e,-⟩:=S.ex;have:=e.few;cases m with|dead c b=>exact aB _|live t f=>have c:=bI List.length e.mode.2;rw[dB]at c;show Λ f+1<=400;simp at c;omega
theorem Pr.goes(S:Pr o w p d m L)(e:m.is s=true):m.cZ/\m.aK.len+1=m.len:=by obtain⟨x,l,c,-⟩:=S.ex;exact c.goes e
theorem Pr.append{t:TypeId}{z n bytes:Nat}{xs:Δ υ}{cs:Array υ}(S:Pr o w p d m (.inr (ψ c n i,u,z,n,xs)::L))
 {B:Array Oper} {rest:Δ Oper} {e:Oper} {a:Act} {A:Exit->Act->ω->Prop} (C:e.guard=ν) (y x:Operand) (k:e.op=.call { callee:=.builtin .append,args:=#[y,x],argTypes:=#[t,t] })
 (N:prog.underlying t=σ (.slice u)) (G:(prog.info? u).map (λs=>(s.zero,s.size,s.bytes))=σ (σ r,z,bytes)) (Q:r.cells.size=z) (P:0<z) (j:bytes<=1000) (Y:n<=1000)
 (M:a.eval y=ψ c n i) (O:a.eval x=ψ (σ ⟨w.heap.size,0,ν⟩) 1 1) (H:cs.size=z) (E:∀X∈cs.toList,X.oneCell'=true)
 (D:∀g cap w',Pr o w' p d m (.inr (ψ (σ ⟨g,0,ν⟩) (n+1) cap,u,z,n+1,xs++cs.toList)::L)->wpList prog B A rest (a.put e.dst (ψ (σ ⟨g,0,ν⟩) (n+1) cap)) w'):wpList prog B A (e::rest) a (w.alloc (ξ cs u)):=by obtain⟨R,K,U,V,T⟩:=gq G;have f:=S.alloc (ξ cs u);refine mb _ C y x t k o.1.heap.size u R r z bytes N K U V T Q P _ n xs M f.row ⟨w.heap.size,0,ν⟩ 1 1 cs.toList O (by simpa using H) (World.news_of_block (az w (ξ cs u))) E (by decide) (by unfold maxLen;omega) ?_ f.fr.size ?_;{have:(n+1)*bytes<=1001*1000:=jr (by omega) j;omega};intro g cap w' k I j;exact D g cap w' (f.app k I j)
end
def Vm(F p d:Nat){α:Type}(S:aD->α×aD)(c:α->Δ υ)(sh:Array υ->Prop):Prop:=(∀(args:Array υ) (w:ω),Sem.run prog (callFunc F args) w=.ok (.enter F args) w)/\(∀m,(S m).2.len<=m.len)/\
 ∀o w m L,Pr o w p d m L->Calls prog F #[π (σ ⟨p,0,ν⟩)] w λr w'=>∃cs,r=τ (.agg cs)/\sh cs/\Pr o w' p d (S m).2 L/\((S m).2.cZ->cs.toList=c (S m).1)
def Vn(G T z:Nat)(sh:Array υ->Prop):Prop:=∀(T' z':Nat),T'=T->z'=z->∀{o w p d m L F} {α:Type} {S:aD->α×aD} {c:α->Δ υ},Pr o w p d m L->Vm F p d S c sh->
 Calls prog G #[π (σ ⟨p,0,ν⟩),.func (.func F) #[π (σ ⟨p,0,ν⟩)] #[]] w λr w'=>∃va n vc xs,r=τ (ψ va n vc)/\Pr o w' p d (de S m).2 (.inr (ψ va n vc,T',z',n,xs)::L)/\((de S m).2.cZ->xs=(de S m).1.flatMap c)
def sh2(cs:Array υ):Prop:=∃s i,cs=#[θ s,ι κ i]
def sh3(cs:Array υ):Prop:=∃s i j,cs=#[θ s,ι κ i,ι κ j]
def sh5(cs:Array υ):Prop:=∃i j b k s,cs=#[ι κ i,ι κ j,.bool b,ι κ k,θ s]
theorem lists:Vn 151 117 2 sh2/\Vn 103 213 3 sh3/\Vn 148 292 5 sh5:=by
 refine⟨?_,?_,?_⟩;all_goals
  intro aa z Q T o w p d m L F α S ab U ⟨hE,R,P⟩;obtain⟨q,N,fin⟩:=U.start;have Gt:=N.alM;have Iw:=R m;go_in;go_wp21;refine(P _ _ _ _ N).mono ?_;rintro I w1 ⟨cs,rfl,c,Y,f⟩;first
   |obtain⟨j,i,rfl⟩:=c
   |obtain⟨j,i,G,rfl⟩:=c
   |obtain⟨j,i,G,t,v,rfl⟩:=c
  have V:=ak f;clear f;go_wp2;go_loopw[5] (λv wr=>∃(m':aD) (n:Nat) (xs:Δ υ) (H:Δ α) (e:Nat) (s:Option Addr) (u:Nat),v=ψ s n u/\Pr (w,q) wr p d m' [.inr (ψ s n u,aa,z,n,xs)]/\n+m'.len<=401/\m'.len<=e/\Hid (lF S e H m'=de S m)/\Hid (m'.cZ->xs=H.flatMap ab)) (λv _=>2000 - lenOf v);(case atStart=>subst Q T;exact⟨_,1,_,[(S m).1],_,_,_,rfl,(Y.new _ _).one rfl,by omega,ae _,ak rfl,ak λD=>by simpa using V.J D⟩);case round=>
   subst Q T;obtain⟨m',n,xs,H,e,s,u,rfl,B,hn,hf,K,M⟩:=hrel;have y:m'.is qA=decide (bf m'.tk=13):=lN (i:=8) B.wf rfl (by decide);obtain⟨r,E⟩:∃r,decide (bf m'.tk=13)=r:=⟨_,rfl⟩;rw[E]at y;have O:=B.JB 13 r E;have A:=ak y;clear E y;cases r;{go_wp21;refine O.mono ?_;rintro I w2 ⟨rfl,k⟩;go_wp2;go_ret;have ac:=(qR A.J).symm.trans K.J;rw[<- ac];exact⟨s,n,u,xs,rfl,fin [_] k,M.J⟩}
   obtain⟨tU,ag⟩:=B.goes A.J;obtain⟨C,rfl⟩:∃C,e=C+1:=⟨e - 1,by omega⟩;have tH:=ak (sG K.J A.J);go_wp21;refine O.mono ?_;rintro I w2 ⟨rfl,k⟩;change Pr _ _ _ _ m'.aK _ at k;go_wp21;refine(P _ _ _ _ k).mono ?_;rintro I w3 ⟨cs,rfl,c,Z,f⟩;have ad:=R m'.aK;have X:=ak f;clear f;first
    |obtain⟨j,i,rfl⟩:=c
    |obtain⟨j,i,G,rfl⟩:=c
    |obtain⟨j,i,G,t,v,rfl⟩:=c
   go_wp2_with(at_builtin;refine Z.append rfl _ _ rfl (by first|exact underlying225|exact underlying209|exact underlying217) (by first|exact Tryz.ZG|exact Tryz.RE|exact Tryz.Vl) rfl (by decide) (by decide) (by omega) rfl rfl rfl (by simp[Value.oneCell'];done) ?_;intro g cap w5 P6);go_wp2;go_roundw;(case rel=>exact⟨_,n+1,_,_,C,_,_,rfl,P6,by omega,by omega,tH,ak λD=>by rw[M.J tU,X.J D];simp⟩);case measure=>exact RF rfl rfl (by omega)
theorem FD(c:i≠f):((i:Int)==(f:Int))=false:=by rw[aY];omega
def ZH(c:Nm×Nat):Δ υ:=[θ c.1.1,ι κ c.1.2,ι κ c.2]
def Xe(l:Δ (Nm×Nat)):Δ υ:=l.flatMap ZH
def tO(v:xY):Δ υ:=[ι κ v.pl,ι κ v.kind,.bool v.bH,ι κ v.n,θ v.s]
def De(l:Δ xY):Δ υ:=l.flatMap tO
section
variable {o:ω×Option Nat} {w w':ω} {p d:Nat} {m:aD} {L:Δ It}
theorem ag5(hw:m.tk.wf):qN m=if bf m.tk=42 then(0,m.aK)else if bf m.tk=43 then(1,m.aK)else if bf m.tk=44 then(2,m.aK)else(2,m.cQ 2):=by unfold qN aD.take;rw[show m.is aiZ=decide (bf m.tk=42)from fS (i:=21) hw rfl (by decide),show m.is ai0=decide (bf m.tk=43)from fS (i:=22) hw rfl (by decide),show m.is OY=decide (bf m.tk=44)from fS (i:=23) hw rfl (by decide)];simp only[decide_eq_true_eq];split;{rfl};split;{rfl};split<;>rfl
theorem Pr.kind(j:Pr o w p d m L):Calls prog 147 #[π (σ ⟨p,0,ν⟩)] w λi w'=>
 ∃B:Nat,i=τ (ι κ B)/\Pr o w' p d (qN m).2 L/\((qN m).2.cZ->B=(qN m).1):=by
 obtain⟨q,S,fin⟩:=j.start;have e:=ak (ag5 j.wf);have s:=S.take;generalize qN m=R at e ⊢;generalize bf m.tk=c at s e;rcases(show c=42\/c=43\/c=44\/(c≠42/\c≠43/\c≠44)by omega)with rfl|rfl|rfl|⟨u,y,A⟩;all_goals
  (try have D:((c:Int)==42)=false:=FD u);(try have E:((c:Int)==43)=false:=FD y);(try have G:((c:Int)==44)=false:=FD A);go_in;go_wp21;refine s.mono ?_;rintro i H ⟨rfl,k⟩;go_wp21
  (try
    (with_reducible refine dM ((k.alloc _).refuse _ _ _ _) ?_)
    rintro i I ⟨rfl,r⟩;rw[qU]at r;go_wp2)
  go_ret;first
   |have f:R=(0,m.aK):=by exact e.J
   |have f:R=(1,m.aK):=by exact e.J
   |have f:R=(2,m.aK):=by exact e.J
   |have f:R=(2,m.cQ 2):=e.J.trans (by rw[aH u,aH y,aH A])
  subst f;first
   |exact⟨_,rfl,fin [] r,λC=>absurd C (ez m 2)⟩
   |exact⟨_,rfl,fin [] (k.alloc _),λ_=>rfl⟩
end
theorem JX(p d:Nat):Vm 104 p d qB ZH sh3:=⟨call104,λm=>ay (DW _) (eQ m),λo w m L i=>by
 obtain⟨q,S,fin⟩:=i.start;go_in;go_wp21;refine(S.new #[θ ⟨#[]⟩,ι κ 0,ι κ 0] 213).aI.mono ?_;rintro B C ⟨rfl,k⟩;go_wp21;refine k.kind.mono ?_;rintro B D ⟨s,rfl,c,f⟩;have j:=ak f;clear f;obtain⟨u,y,A⟩:=yS c.box;have z:=c.fz;go_wp2
 (try simp only[Exit.inBlock,Exit.then])
 refine aE (v:=_) (by simp[results,results104,go_sem,u,y,A];rfl) rfl ?_;refine⟨_,rfl,⟨_,_,_,rfl⟩,fin [] (c.awe _ _ _),λe=>?_⟩;have r:=(oP m).2 (back (DW _) e);show[Value.string (dC m.tk),ι κ m.cE,ι κ s]=ZH (m.aI.1,(qN m.aI.2).1);rw[<- r,<- j.J e];rfl⟩
def vV(cy:Δ bU)(e:Ex)(pl:Nat):Nat×Nat:=match dp cy e with|.inr f=>f|.inl k=>if k≠2 then(7,pl)else(0,0)
theorem Lr{w:ω}{cy:Δ bU}{cv:υ}{e:Ex}{pl:Nat}(T:tS e)(P:eK w cv cy)(h5:Λ cy<=1000):Calls prog 275 #[χ #[ι κ pl,se e],cv] w λG w'=>G=τ (χ #[ι κ (vV cy e pl).1,ι κ (vV cy e pl).2])/\δ w.heap.size w w':=by
 obtain⟨u,Z,hm,ab⟩:=Bl e;obtain⟨W,k⟩:=nm ((w.alloc (ae3 pl (.iface u (zO e)))).alloc (nP 0 0));have r:=zS k;have hR:W.heap[w.heap.size+1]?=σ (nP 0 0):=(by rw[k];have N:=az (w.alloc (ae3 pl (.iface u (zO e)))) (nP 0 0);rw[show(w.alloc (ae3 pl (.iface u (zO e)))).heap.size=w.heap.size+1 by simp]at N;exact N);have hS:W.heap[w.heap.size]?=σ (ae3 pl (.iface u (zO e))):=by rw[k];exact(fY _ _ (by simp)).trans (az w _)
 have X:=alC (cy:=cy) (cv:=cv) (by omega) e T W (P.aU r (ae _));have B:=r;have H:=ak hR;have I:=ak hS;have Y:=ak k;obtain⟨ca,nj,hv⟩:=P.slice;subst hv;rw[Z];go_in;go_wp21;rw[<- Y.J];refine X.mono ?_;rintro G f ⟨hr,i⟩;obtain⟨E,c,b,rfl,rL⟩:=Ev hr;have Q:=(i.block _ (aA H.J)).trans H.J;have K:=(i.block _ (aA I.J)).trans I.J;have R:=aA Q;have C:δ f.heap.size f (f.alloc (nP c b)):=(aj _ _).alloc (ae _) _;have M:=ak ((C.block _ R).trans Q);have LH:=ak ((C.block _ (aA K)).trans K);have U:=tw c b (f.alloc (nP c b));have V:=ak (az f (nP c b));have O:=(B.trans (i.mono B.size)).trans (C.mono (ay B.size i.size));have kV:w.heap.size+1<(f.alloc (nP c b)).heap.size:=aA M.J;go_wp21;refine U.mono ?_;rintro G w3 ⟨rfl,j⟩;have A:=(j.block _ kV).trans M.J;have JF:=(j.block _ (by omega)).trans LH.J;have aa:=(j.block _ (by simp)).trans V.J;have iP:=O.trans (j.mono O.size);obtain⟨p0,p1⟩:=fW A;have y0:=cF A 0;have y1:=cF A 1;obtain⟨s0,s1⟩:=fW JF;obtain⟨g0,g1⟩:=fW aa;rcases rL with⟨D,r,s⟩|⟨D,s⟩
 (case' inr=>have y:Hid (vV cy e pl=(c,b)):=ak (by unfold vV;rw[s]);rw[show decide (c≠0)=true by simpa using D]);(case' inl=>subst D;subst r;rw[show decide ((0:Nat)≠0)=false from rfl];by_cases hw:E=2;(case' pos=>have y:Hid (vV cy e pl=(0,0)):=ak (by unfold vV;rw[s,hw];rfl);have qP:((E:Int) != 2)=false:=by rw[hw];rfl);case' neg=>have y:Hid (vV cy e pl=(7,pl)):=ak (by unfold vV;rw[s];simp[hw]);have qP:((E:Int) != 2)=true:=by rw[dZ];omega);all_goals go_wp2;(try go_region);all_goals (try go_wp2);refine aE (by simp[results,results275,go_sem,p0,p1];rfl) rfl ?_;exact⟨by rw[y.J];try rfl,by repeat(first|exact iP|refine aP ?_|refine below_drewN ?_ _|refine fx ?_ (by simp) _|refine gw ?_ (by simp;omega) _)⟩
def om(K N:Nat)(T:Γ):Nat×Nat×Γ×Bool:=
 if K=3 then(0,N,⟨#[]⟩,true)else if K=4 then(1,0,T,true)else if K=40 then(2,1,⟨#[]⟩,true)else if K=41 then(2,0,⟨#[]⟩,true)else(0,0,⟨#[]⟩,false)
theorem MN(c e B:Nat)(f:Γ)(w:ω):Calls prog 178 #[χ #[ι κ c,ι κ B,θ f,ι κ e]] w λC w'=>
 C=τ (.tuple #[ι κ (om c e f).1,χ #[.bool false,ι κ (om c e f).2.1,θ (om c e f).2.2.1],.bool (om c e f).2.2.2])/\δ w.heap.size w w':=by
 have⟨j,r⟩:=nm (om c e f);rw[<- r];have i:=ak r;clear r;unfold om at i;rcases(show c=3\/c=4\/c=40\/c=41\/(c≠3/\c≠4/\c≠40/\c≠41)by omega)with rfl|rfl|rfl|rfl|⟨s,u,y,A⟩
 all_goals
  (try have D:((c:Int)==3)=false:=FD s);(try have E:((c:Int)==4)=false:=FD u);(try have G:((c:Int)==40)=false:=FD y);(try have H:((c:Int)==41)=false:=FD A);go_in;go_wp2;(try go_region);all_goals
   (try go_wp2);(try simp only[Exit.inBlock,Exit.then]);first
    |have k:j=(0,e,⟨#[]⟩,true):=by exact i.J
    |have k:j=(1,0,f,true):=by exact i.J
    |have k:j=(2,1,⟨#[]⟩,true):=by exact i.J
    |have k:j=(2,0,⟨#[]⟩,true):=by exact i.J
    |have k:j=(0,0,⟨#[]⟩,false):=i.J.trans (by rw[aH s,aH u,aH y,aH A])
   subst k;refine aE (by simp[results,results178,go_sem];rfl) rfl ?_;exact⟨rfl,by first|exact aP (((aj _ _).alloc (ae _) _).alloc (by simp) _)|exact((aj _ _).alloc (ae _) _).alloc (by simp) _⟩
def tW(v:xY):xY:={ v with kind:=if v.bH then 0 else v.kind }
def Df(m:aD):xY×aD:=(tW (gF m).1,(gF m).2)
theorem ZI{f k:Type}(c:f->k)(one:aD->f×aD)(m:aD):de (λm=>(c (one m).1,(one m).2)) m=((de one m).1.map c,(de one m).2):=by have i:∀n l m,lF (λm=>(c (one m).1,(one m).2)) n (l.map c) m=((lF one n l m).1.map c,(lF one n l m).2):=(by intro n;induction n with|zero=>(intro l m;rfl)|succ n j=>intro l m;unfold lF;by_cases e:m.is qA=true;{rw[aN e,aN e,<- j];simp};rw[aH e,aH e]);exact i _ [(one m).1] _
theorem Vo(m:aD):de Df m=((de gF m).1.map tW,(de gF m).2):=ZI tW gF m
def adx(m:aD):Δ υ×aD:=
 if bf m.tk=17 then([ι κ m.cE,ι κ 0,.bool false,ι κ (-(iQ m.aK.tk:Int)),θ ⟨#[]⟩],cond (decide (bf m.aK.tk=3)) m.aK.aK (m.aK.cQ 2))
 else if bf m.tk=39 then([ι κ m.cE,ι κ 0,.bool true,ι κ 0,θ ⟨#[]⟩],m.aK)
 else([ι κ m.cE,ι κ (om (bf m.tk) (iQ m.tk) (dC m.tk)).1,.bool false,ι κ (om (bf m.tk) (iQ m.tk) (dC m.tk)).2.1,θ (om (bf m.tk) (iQ m.tk) (dC m.tk)).2.2.1],cond (om (bf m.tk) (iQ m.tk) (dC m.tk)).2.2.2 m.aK (m.cQ 2))
theorem alN{m:aD}(hw:m.tk.wf):(adx m).2=(Df m).2/\((Df m).2.cZ->(adx m).1=tO (Df m).1):=by have C:m.is pN=decide (bf m.tk=17):=lN (i:=12) hw rfl (by decide);have D:m.is FN=decide (bf m.tk=40):=fS (i:=19) hw rfl (by decide);have E:m.is zP=decide (bf m.tk=41):=fS (i:=20) hw rfl (by decide);have G:m.is tZ=decide (bf m.tk=39):=fS (i:=18) hw rfl (by decide);have k:∀m:aD,¬(m.cQ 2).cZ:=λm=>ez m 2;have f:(⟨#[]⟩:Γ)=ByteArray.empty:=rfl;unfold adx Df gF om;rw[C,D,E,G];have⟨c,e⟩:=nm (bf m.tk);rw[<- e];by_cases r:c=17;{simp only[r,decide_true,if_true];have⟨K2,i⟩:=nm (bf m.aK.tk);rw[<- i];cases hk:m.aK.tk<;>rw[hk]at i;(case num n=>simp[i,bf,iQ,tO,tW,f]);all_goals have j:¬K2=3:=(by rw[i];simp only[bf];omega);simp[j,k]};simp only[r,decide_false,if_false,Bool.false_eq_true];cases hk:m.tk<;>rw[hk]at e;(case num n=>simp[e,bf,iQ,tO,tW,f]);(case str s=>simp[e,bf,dC,tO,tW]);all_goals have j:¬c=3:=(by rw[e];simp only[bf];omega);have B:¬c=4:=(by rw[e];simp only[bf];omega);by_cases u:c=39;{simp[u,tO,tW,f]};by_cases y:c=40;{simp[y,tO,tW,f]};by_cases A:c=41;{simp[A,tO,tW,f]};simp[j,B,u,y,A,k]
theorem ag6{c:Tk}(e:c.wf):(iQ c:Int)<=9223372036854775807:=by cases c with|num n=>have:n<=9223372036854775807:=e;show(n:Int)<=_;omega|_=>show(0:Int)<=_;omega
section
variable {o:ω×Option Nat} {w w':ω} {p d b:Nat} {m:aD} {L:Δ It} {t:TypeId}
theorem Pr.alO{x z v:υ}(S:Pr o w p d m (.inl (b,#[x,r,z,y,v],t)::L))(a c e f g:υ):Pr o (((((w.setCell ⟨b,0,ν⟩ a).setCell ⟨b,1,ν⟩ c).setCell ⟨b,2,ν⟩ e).setCell ⟨b,3,ν⟩ f).setCell ⟨b,4,ν⟩ g) p d m (.inl (b,#[a,c,e,f,g],t)::L):=((((S.put 0 a).put 1 c).put 2 e).put 3 f).put 4 g
end
theorem ZJ(p d:Nat):Vm 149 p d Df tO sh5:=⟨call149,Bc,λo w m L U=>by
 have⟨q,S,fin⟩:=U.start;have j:=ak (alN U.wf);generalize Df m=V at j ⊢;have⟨ab,P⟩:=nm (adx m);rw[<- P]at j;have e:=ak P;unfold adx at e;have Y:=(S.new #[ι κ 0,ι κ 0,.bool false,ι κ 0,θ ⟨#[]⟩] 292).take;have O:=MN (bf m.tk) (iQ m.tk) m.cE (dC m.tk);clear P;generalize bf m.tk=c at Y e O;generalize om c (iQ m.tk) (dC m.tk)=R at O e;obtain⟨ck,Z,cs,cf⟩:=R;rcases(show c=17\/c=39\/(c≠17/\c≠39)by omega)with k|k|⟨k,h2⟩
 all_goals
  (try have e1:((c:Int)==17)=true:=by rw[k];rfl)
  (try have e1:((c:Int)==17)=false:=FD (by omega))
  (try have e2:((c:Int)==39)=true:=by rw[k];rfl)
  (try have e2:((c:Int)==39)=false:=FD (by omega))
  first
   |replace e:=ak (e.J.trans (aN k))
   |replace e:=ak (e.J.trans ((aH (by omega)).trans (aN k)))
   |replace e:=ak (e.J.trans ((aH k).trans (aH h2)))
  clear k;go_in;go_wp21;refine Y.mono ?_;rintro Q T ⟨rfl,r⟩;have⟨H,I,K,M,N⟩:=qT r.box;have z:=r.fz;have hl:=r.at;have X:=r.new #[ι κ c,ι κ m.cE,θ (dC m.tk),ι κ (iQ m.tk)] 113
 . have hn:=ag6 r.wf
   have Qx:IntKind.i64.wrap (-(iQ m.aK.tk:Int))=-(iQ m.aK.tk:Int):=by rw[nL];omega
   have hf:=λw=>(xK (bf m.aK.tk) m.aK.cE (dC m.aK.tk) (iQ m.aK.tk) w).2.2;have⟨W,G⟩:=nm (T.alloc (ξ #[ι κ c,ι κ m.cE,θ (dC m.tk),ι κ (iQ m.tk)] 113 (0,0)));have f:Pr (w,q) W.drew p d m.aK [.inl (T.heap.size,#[ι κ c,ι κ m.cE,θ (dC m.tk),ι κ (iQ m.tk)],113),.inl (w.heap.size,#[ι κ 0,ι κ 0,.bool false,ι κ 0,θ ⟨#[]⟩],292)]:=by rw[G];exact X.drew
   have aa:=f.must 3 _ rfl;have⟨g0,g1,g2,g3⟩:=eJ (show W.heap[T.heap.size]?=_ from f.box);clear H I K M N z;go_wp21;have HW:=ak G;rw[<- G];clear G;go_region_with(with_reducible refine dM aa ?_;rintro Q w2 ⟨rfl,E⟩;have⟨u0,u1,u2,u3⟩:=eJ E.box;obtain⟨H,I,K,M,N⟩:=qT E.drop.box;have z:=E.drop.fz)
   all_goals
    (try go_wp2)
    have i:=E.drop.alO (ι κ m.cE) (ι κ 0) (.bool false) (ι κ (-(iQ m.aK.tk:Int))) (θ ⟨#[]⟩);generalize World.setCell _ _ _=WF at i ⊢;have⟨y,A,B,C,D⟩:=qT i.box
    (try simp only[Exit.inBlock,Exit.then])
    refine aE (by simp[results,results149,go_sem,y,A,B,C,D];rfl) rfl ?_;have s:=e.J;subst s;exact⟨_,rfl,⟨_,_,_,_,_,rfl⟩,j.J.1 ▸ fin [] i,λu=>j.J.2 u⟩
 . go_wp2
   have i:=(r.alO (ι κ m.cE) (ι κ 0) (.bool true) (ι κ 0) (θ ⟨#[]⟩)).alloc (ξ #[ι κ c,ι κ m.cE,θ (dC m.tk),ι κ (iQ m.tk)] 113);generalize World.alloc (World.setCell _ _ _) _=WF at i ⊢;have⟨y,A,B,C,D⟩:=qT i.box
   (try simp only[Exit.inBlock,Exit.then])
   refine aE (by simp[results,results149,go_sem,y,A,B,C,D];rfl) rfl ?_;have s:=e.J;subst s;exact⟨_,rfl,⟨_,_,_,_,_,rfl⟩,j.J.1 ▸ fin [] i,λu=>j.J.2 u⟩
 . go_wp21
   refine(O _).mono ?_;rintro Q w2 ⟨rfl,hb⟩;have f:=(X.aU hb).new #[.bool false,ι κ Z,θ cs] 263;clear H I K M N z;have⟨t0,t1,t2,t3⟩:=eJ f.drop.box
   cases cf
   case' false=>
    go_wp21;refine(f.refuse _ _ _ _).mono ?_;rintro Q w3 ⟨rfl,f⟩;rw[qU]at f;clear t0 t1 t2 t3;have⟨t0,t1,t2,t3⟩:=eJ f.drop.box
   all_goals
    have⟨c0,c1,c2⟩:=yS f.box;have⟨H,I,K,M,N⟩:=qT f.drop.drop.box;have z:=f.drop.drop.fz;go_wp2;have i:=f.drop.drop.alO (ι κ m.cE) (ι κ ck) (.bool false) (ι κ Z) (θ cs);generalize World.setCell _ _ _=WF at i ⊢;have⟨y,A,B,C,D⟩:=qT i.box
    (try simp only[Exit.inBlock,Exit.then])
    refine aE (by simp[results,results149,go_sem,y,A,B,C,D];rfl) rfl ?_;have s:=e.J;subst s;exact⟨_,rfl,⟨_,_,_,_,_,rfl⟩,j.J.1 ▸ fin [] i,λu=>j.J.2 u⟩⟩
def qm(d:Nat)(m:aD):aD:=if d=8 then m.cQ 3 else m.aK
def MR(w:ω)(p:Nat):Nat:=
 match Ξ w ⟨p,0,ν⟩,Ξ w (Ad p 1),Ξ w (Ad p 3)with
 |some (.slice _ n _),σ (.int _ q),σ (.int _ e)=>if e=0 then n - q.toNat else 0
 |_,_,_=>0
theorem nO.left{w:ω}{p:Nat}{x:rh}{m:aD}{l:Δ Tok}(c:nO w p x m l):MR w p=m.len:=by obtain⟨g,cap,k,A,-⟩:=c.slice;have r:Ξ w (Ad p 0)=σ (ψ (σ (Ad g 0)) (Λ l) cap):=(c.xX.cell 0).trans (by rw[<- k];rfl);have s:Ξ w (Ad p 1)=σ (ι κ x.pos):=c.xX.cell 1;have u:Ξ w (Ad p 3)=σ (ι κ x.e):=c.xX.cell 3;unfold MR;rw[r,s,u];have f:=c.mode;cases m with|dead B b=>(obtain⟨i,-,e,-⟩:=f;have:¬((x.e:Int)=0):=(by omega);simp only[this,if_false];rfl)|live t y=>obtain⟨i,j⟩:=f;have:((x.e:Int)=0):=(by omega);have e:=bI List.length j;rw[dB]at e;simp only[this,if_true];simp only[List.length_cons]at e;show Λ l - x.pos=Λ y+1;exact e
theorem nO.deep{w:ω}{p:Nat}{x:rh}{m:aD}{l:Δ Tok}(c:nO w p x m l)(d:Nat):nO (w.setCell (Ad p 2) (ι κ (d:Nat))) p { x with depth:=d } m l:=by refine c.put (y:={ x with depth:=d }) 2 _ (by simp[rO]) rfl ?_;have e:=c.mode;cases m with|dead f b=>exact e|live t i=>exact e
def PX(F d:Nat)(S:aD->Ex×aD):Prop:=∀{o w p m L},Pr o w p d m L->(m.cZ->d<=8)->Calls prog F #[π (σ (Ad p 0))] w λr w'=>
 ∃t v,r=τ (.iface t v)/\Pr o w' p d (S m).2 L/\((S m).2.cZ->.iface t v=se (S m).1)
section
variable {o:ω×Option Nat} {w w':ω} {p d d' F:Nat} {m:aD} {L:Δ It} {S:aD->Ex×aD}
theorem Pr.left(c:Pr o w p d m L):MR w p=m.len:=by obtain⟨x,l,e,-⟩:=c.ex;exact e.left
theorem Pr.deep(f:Pr o w p d m L)(e:Int)(j:e=d'):Pr o (w.setCell (Ad p 2) (ι κ e)) p d' m L:=by obtain⟨x,l,c,-,i⟩:=f.go;subst j;exact i (c.deep d') rfl (λ_ c=>.inl c) ((bu.qS (aj _ _)).own 2 _)
theorem Pr.adS(e:Pr o w p d m L):Ξ w (Ad p 2)=σ (ι κ d)/\w.frozen? (Ad p 2)=false:=by obtain⟨x,l,c,rfl,-⟩:=e.ex;exact⟨c.xX.cell 2,c.xX.fz 2⟩
theorem Pr.leave(c:Pr o w p (d+1) m L)(r:d<=100):Calls prog 229 #[π (σ (Ad p 0))] w λf w'=>f=τ (.tuple #[])/\Pr o w' p d m L:=by have⟨i,j⟩:=c.adS;have k:=c.lt;have e:=c.deep (d':=d) ((d:Int)+1 - 1) (by omega);go_in;go_wp2;go_end0;exact⟨rfl,by simpa using e⟩
theorem Pr.enter(D:Pr o w p d m L)(Q:d<=8):Calls prog 228 #[π (σ (Ad p 0))] w λj w'=>
 j=τ (χ #[ι κ (bf m.tk),ι κ m.cE,θ (dC m.tk),ι κ (iQ m.tk)])/\Pr o w' p (d+1) (qm d m) L:=by
 have⟨q,S,fin⟩:=D.start;have r:(d=8/\qm d m=m.cQ 3)\/(d≠8/\qm d m=m.aK):=by unfold qm;by_cases G:d=8<;>simp[G]
 generalize qm d m=M at r ⊢;go_in;go_wp21;refine(S.new #[ι κ 0,ι κ 0,θ ⟨#[]⟩,ι κ 0] 113).take.mono ?_;rintro j C ⟨rfl,f⟩;have c:=f.new #[ι κ (bf m.tk),ι κ m.cE,θ (dC m.tk),ι κ (iQ m.tk)] 113;have⟨u,y,A,B⟩:=eJ c.box;have⟨s,k⟩:=c.adS;have R:¬(p=w.heap.size):=by have:p<w.heap.size:=f.lo.2;omega
 have O:¬(C.heap.size=p):=by have:=f.lt;omega
 have P:¬(C.heap.size=w.heap.size):=by have:=f.at;omega
 rcases r with⟨e,rfl⟩|⟨e,rfl⟩;(case' inl=>have E:((d:Int)==8)=true:=(by rw[e];rfl);clear e;go_wp21;refine(c.fail 3 m.cE (by decide)).mono ?_;rintro j Y ⟨rfl,c⟩;rw[qU]at c;clear u y A B s k;have⟨u,y,A,B⟩:=eJ c.box;have⟨s,k⟩:=c.adS);(case' inr=>have E:((d:Int)==8)=false:=FD e;clear e);all_goals have⟨T,U,V,X⟩:=eJ c.drop.box;have z:=c.drop.fz;go_wp2;have i:=(c.drop.deep (d':=d+1) ((d:Int)+1) (by omega)).als (ι κ (bf m.tk)) (ι κ m.cE) (θ (dC m.tk)) (ι κ (iQ m.tk));generalize World.setCell _ _ _=WF at i ⊢;have⟨H,I,K,N⟩:=eJ i.box;(try simp only[Exit.inBlock,Exit.then]);refine aE (v:=_) (by simp[results,results228,go_sem,H,I,K,N];try rfl) rfl ?_;exact⟨rfl,fin [] i⟩
theorem Pr.Xg(U:∀(u:Array υ) (w:ω),Sem.run prog (callFunc F u) w=.ok (.enter F u) w)(K:PX F d S)(C:Pr o w p d m L)(I:m.cZ->d<=8)(A:TypeId)(B:υ)(c:Nat)(j:opsL[bf m.tk]?=σ c) :
 Calls prog 199 #[π (σ (Ad p 0)),.iface A B,.func (.func F) #[π (σ (Ad p 0))] #[]] w λk w'=>
 ∃t v,k=τ (.iface 369 (χ #[ι κ c,ι κ m.cE,.iface A B,.iface t v]))/\Pr o w' p d (S m.aK).2 L/\((S m.aK).2.cZ->.iface t v=se (S m.aK).1):=by
 have⟨q,G,fin⟩:=C.start;have V:(bf m.tk:Int)<37:=by have:=(ah.mp j).1;simp[opsL]at this;omega
 have s:=ak j;clear j;go_in;go_wp21;refine G.take.mono ?_;rintro k r ⟨rfl,H⟩;have⟨W,e⟩:=nm (r.alloc (ξ #[ι κ (bf m.tk),ι κ m.cE,θ (dC m.tk),ι κ (iQ m.tk)] 113 (0,0)));have f:Pr (w,q) W.drew p d m.aK [.inl (r.heap.size,#[ι κ (bf m.tk),ι κ m.cE,θ (dC m.tk),ι κ (iQ m.tk)],113)]:=by rw[e];exact(H.new _ _).drew
 have E:=K f (λM=>I (JE M));have⟨P,Q,R,T⟩:=eJ (show W.heap[r.heap.size]?=_ from f.box);have X:Ξ W (Ad 8 (bf m.tk))=σ (ι κ c):=f.alr _ c s.J;go_wp21;have O:=ak e;rw[<- e];clear e;go_region_with((with_reducible refine dM E ?_);rintro k N ⟨t,v,rfl,i,y⟩;have⟨Z,u1,u2,u3⟩:=eJ i.box;have Y:Ξ N (Ad 8 (bf m.tk))=σ (ι κ c):=i.alr _ c s.J;have D:=ak y;clear y);all_goals (try go_wp2);go_ret;exact⟨t,v,rfl,fin [] i,D.J⟩
theorem Pr.chain(hE:∀(N:Array υ) (w:ω),Sem.run prog (callFunc F N) w=.ok (.enter F N) w)(D:iR S)(P:PX F d S){c:Δ (Γ×Nat)}(hL:JC c)(hn:Λ c<=100)(Z:Pr o w p d m L)(O:m.cZ->d<=8)(g cap n:Nat)(e:pB w g (c.map (·.2)))(U:g<w.heap.size)(Kv:g≠p)(E:n=(c.map (·.2)).length) :
 Calls prog 180 #[π (σ (Ad p 0)),.func (.func F) #[π (σ (Ad p 0))] #[],ψ (σ (Ad g 0)) n cap] w λk w'=>
 ∃t v,k=τ (.iface t v)/\Pr o w' p d (uM S (c.map (·.1)) m).2 L/\((uM S (c.map (·.1)) m).2.cZ->.iface t v=se (uM S (c.map (·.1)) m).1):=by
 have⟨q,ac,fin⟩:=Z.start;have Sn:=ak E;have HK:=ak e;clear E e;go_in;go_wp21;refine(P ac O).mono ?_;rintro k w1 ⟨t1,v1,rfl,P1,R⟩;have aa:=ak R;clear R;go_wp2;go_loopw[7] (λv wr=>∃(m':aD) (t:TypeId) (r:υ) (B:Ex) (j:Nat),v=.iface t r/\Pr (w,q) wr p d m' []/\m'.len<=j/\Hid (nh S (c.map (·.1)) j B m'=uM S (c.map (·.1)) m)/\Hid (m'.cZ->.iface t r=se B)/\(m'.cZ->m.cZ)) (λ_ wr=>MR wr p);case atStart=>exact⟨_,t1,v1,_,_,rfl,P1,ae _,ak rfl,aa,λf=>D.back f⟩
 case round=>obtain⟨m',t,r,B,j,rfl,i,hf,G,H,Q⟩:=hrel;have s:=JD hL i.wf;have V:=i.left;have M:=HK.J.keep i.fr Kv U;obtain⟨u,e⟩:∃u,decide (bf m'.tk∈c.map (·.2))=u:=⟨_,rfl⟩;have y:=i.Va (c.map (·.2)) g cap M (by simpa using hn) (aw U i.fr.size) u e;rw[<- Sn.J]at y;have HL:=ak V;clear M V;cases u;{have HF:=ak ((Ip (s.2 (by simpa using e))).symm.trans G.J);clear s e;go_wp21;refine y.mono ?_;rintro k w2 ⟨rfl,A⟩;go_wp2;go_ret;rw[<- HF.J];exact⟨t,r,rfl,fin [] A,H.J⟩};have⟨op,I,Y,X⟩:=s.1 (by simpa using e);have⟨tU,ai⟩:=i.goes X;obtain⟨C,rfl⟩:∃C,j=C+1:=⟨j - 1,by omega⟩;have tH:=ak (Io G.J I);have LG:=ak Y;clear s e I Y X;go_wp21;refine y.mono ?_;rintro k w2 ⟨rfl,A⟩;go_wp21;refine(A.Xg hE P (λf=>O (Q f)) t r _ LG.J).mono ?_;rintro k w3 ⟨t3,v3,rfl,K,T⟩;have ab:=ak T;have ad:=ak K.left;have ag:=D m'.aK;clear T;go_wp2;go_roundw;(case rel=>refine⟨_,_,_,_,C,rfl,K,by omega,tH,ak λf=>?_,λf=>Q (JE (D.back f))⟩;show _=Value.iface _ (χ #[_,_,se _,se _]);rw[<- H.J tU,<- ab.J f]);case measure=>rw[ad.J,HL.J];omega
end
theorem J1(w:ω)(e:Δ Nat)(a:Array υ)(f:∀c (k:c<Λ e),a[c]?=σ (ι κ (e[c]:Nat))):pB (w.alloc (ξ a 111)) w.heap.size e:=λc j=>by
 have i:=az w (ξ a 111);simp only[World.cell?,i];simpa using f c j
theorem adT:JC [(bs [42],18),(bs [47],19),(bs [37],20)]:=λm hw q c=>by
 simp only[List.mem_cons,List.not_mem_nil,or_false]at c;rcases c with rfl|rfl|rfl
 . exact⟨lN (i:=13) hw rfl (by decide),by decide⟩
 . exact⟨lN (i:=14) hw rfl (by decide),by decide⟩
 . exact⟨lN (i:=15) hw rfl (by decide),by decide⟩
theorem ZU:JC [(bs [43],16),(bs [45],17)]:=λm hw q c=>by
 simp only[List.mem_cons,List.not_mem_nil,or_false]at c;rcases c with rfl|rfl
 . exact⟨lN (i:=11) hw rfl (by decide),by decide⟩
 . exact⟨lN (i:=12) hw rfl (by decide),by decide⟩
theorem adU:JC [(bs [97,110,100],35)]:=λm hw q c=>by
 simp only[List.mem_cons,List.not_mem_nil,or_false]at c;subst c
 . exact⟨fS (i:=14) hw rfl (by decide),by decide⟩
theorem Vy:JC [(bs [111,114],36)]:=λm hw q c=>by
 simp only[List.mem_cons,List.not_mem_nil,or_false]at c;subst c
 . exact⟨fS (i:=15) hw rfl (by decide),by decide⟩
theorem adV:JC [(bs [61],8),(bs [60,62],5),(bs [60],9),(bs [60,61],6),(bs [62],10),(bs [62,61],7)]:=λm hw q c=>by
 simp only[List.mem_cons,List.not_mem_nil,or_false]at c;rcases c with rfl|rfl|rfl|rfl|rfl|rfl
 . exact⟨lN (i:=3) hw rfl (by decide),by decide⟩
 . exact⟨lN (i:=0) hw rfl (by decide),by decide⟩
 . exact⟨lN (i:=4) hw rfl (by decide),by decide⟩
 . exact⟨lN (i:=1) hw rfl (by decide),by decide⟩
 . exact⟨lN (i:=5) hw rfl (by decide),by decide⟩
 . exact⟨lN (i:=2) hw rfl (by decide),by decide⟩
section
variable {o:ω×Option Nat} {w w':ω} {p d F:Nat} {m:aD} {L:Δ It} {S:aD->Ex×aD} {sub:Option BJ}
theorem FF(hw:m.tk.wf):m.is fK=decide (bf m.tk=12):=lN (i:=7) hw rfl (by decide)
theorem J2(hw:m.tk.wf):m.is du=decide (bf m.tk=11):=lN (i:=6) hw rfl (by decide)
theorem aqy(hw:m.tk.wf):m.is tZ=decide (bf m.tk=39):=fS (i:=18) hw rfl (by decide)
theorem Xh(e:d<=8)(c:(qm d m).cZ):d+1<=8:=by unfold qm at c;split at c;{exact absurd c (ez _ _)};omega
theorem Pr.nested(C:∀(f:Array υ) (w:ω),Sem.run prog (callFunc F f) w=.ok (.enter F f) w)(B:PX F (d+1) S)(r:Pr o w p d m L)(j:d<=8)(i:Nat) :
 Calls prog 214 #[π (σ ⟨p,0,ν⟩),ι κ (i:Nat),.func (.func F) #[π (σ ⟨p,0,ν⟩)] #[]] w λc w'=>
 ∃t v,c=τ (.iface 387 (χ #[ι κ (i:Nat),ι κ m.cE,.iface t v]))/\Pr o w' p d (S (qm d m)).2 L/\((S (qm d m)).2.cZ->.iface t v=se (S (qm d m)).1):=by obtain⟨q,u,fin⟩:=r.start;go_in;go_wp21;refine(u.enter j).mono ?_;rintro c D ⟨rfl,y⟩;go_wp21;refine(B (y.new _ _) (Xh j)).mono ?_;rintro c E ⟨t,v,rfl,A,k⟩;have s:=ak k;clear k;go_wp21;refine(A.leave (by omega)).mono ?_;rintro c G ⟨rfl,e⟩;obtain⟨H,I,K,M⟩:=eJ e.box;go_wp2;go_ret;exact⟨t,v,rfl,fin [] e,s.J⟩
theorem Pr.bracket(A:PX 152 (d+1) S)(i:Pr o w p d m L)(e:d<=8):Calls prog 243 #[π (σ ⟨p,0,ν⟩)] w λc w'=>
 ∃t v,c=τ (.iface t v)/\Pr o w' p d ((S (qm d m)).2.take fK) L/\((S (qm d m)).2.cZ->.iface t v=se (S (qm d m)).1):=by obtain⟨q,k,fin⟩:=i.start;go_in;go_wp21;refine(k.enter e).mono ?_;rintro c B ⟨rfl,r⟩;go_wp21;refine(A r (Xh e)).mono ?_;rintro c C ⟨t,v,rfl,s,f⟩;have j:=ak f;clear f;go_wp21;refine(s.sign FF).mono ?_;rintro c D ⟨rfl,u⟩;go_wp21;refine(u.leave (by omega)).mono ?_;rintro c E ⟨rfl,y⟩;go_wp2;go_ret;exact⟨t,v,rfl,fin [] y,j.J⟩
theorem AW(j:AG sub):(PX 241 d (jL sub)->PX 238 d (BK sub))/\(PX 238 d (BK sub)->PX 230 d (gU sub))/\
 (PX 200 d (jQ sub)->PX 181 d (BL sub))/\(PX 181 d (BL sub)->PX 152 d (ny sub)):=by
 refine⟨?_,?_,?_,?_⟩;all_goals
  intro i o w p m L u f;obtain⟨q,c,fin⟩:=u.start;have B:=c.lt;first
   |have e:=(c.alloc (ξ #[ι κ 18,ι κ 19,ι κ 20] 111)).chain call241 (iR.turn j) i adT (by decide) f w.heap.size 3 3 (J1 w _ _ (λr k=>match r,k with|0,_=>rfl|1,_=>rfl|2,_=>rfl)) (by simp) (by omega) rfl
   |have e:=(c.alloc (ξ #[ι κ 16,ι κ 17] 111)).chain call238 (iR.part j) i ZU (by decide) f w.heap.size 2 2 (J1 w _ _ (λr k=>match r,k with|0,_=>rfl|1,_=>rfl)) (by simp) (by omega) rfl
   |have e:=(c.alloc (ξ #[ι κ 35] 111)).chain call200 (iR.MY j) i adU (by decide) f w.heap.size 1 1 (U9 w 35) (by simp) (by omega) rfl
   |have e:=(c.alloc (ξ #[ι κ 36] 111)).chain call181 (iR.both j) i Vy (by decide) f w.heap.size 1 1 (U9 w 36) (by simp) (by omega) rfl
  go_in;go_wp21;refine e.mono ?_;rintro C D ⟨t,v,rfl,A,s⟩;have y:=ak s;clear s;go_wp2;go_ret;exact⟨t,v,rfl,fin [] A,y.J⟩
end
def Rdx(o:ω×Option Nat)(w':ω)(p d:Nat)(L:Δ It)(R:Ex×aD)(r:Ending):Prop:=∃t v,r=τ (.iface t v)/\Pr o w' p d R.2 L/\(R.2.cZ->.iface t v=se R.1)
section
variable {o:ω×Option Nat} {w w':ω} {p d F:Nat} {m:aD} {L:Δ It} {S:aD->Ex×aD} {sub:Option BJ}
theorem ahg(hw:m.tk.wf)(y:m.is du=false):(bf m.tk=2->kO sub m=(.col (dC m.tk) m.cE,m.aK))/\
 (bf m.tk≠2->se (kO sub m).1=Vb (om (bf m.tk) (iQ m.tk) (dC m.tk)).1 (om (bf m.tk) (iQ m.tk) (dC m.tk)).2.1 (om (bf m.tk) (iQ m.tk) (dC m.tk)).2.2.1/\(kO sub m).2=cond (om (bf m.tk) (iQ m.tk) (dC m.tk)).2.2.2 m.aK (m.cQ 2)):=by
 have j:m.is FN=decide (bf m.tk=40):=fS (i:=19) hw rfl (by decide);have k:m.is zP=decide (bf m.tk=41):=fS (i:=20) hw rfl (by decide);unfold kO aD.is at *;rw[aH (by rw[y];decide)];have⟨e,c⟩:=nm (bf m.tk);rw[<- c]at j k ⊢;cases hk:m.tk<;>rw[hk]at c j k;case aI t=>exact⟨λ_=>rfl,λf=>absurd c f⟩
 case num n=>exact⟨(λf=>by rw[f]at c;cases c),λ_=>by rw[c];exact⟨rfl,rfl⟩⟩
 case str n=>exact⟨(λf=>by rw[f]at c;cases c),λ_=>by rw[c];exact⟨rfl,rfl⟩⟩
 (case cU s=>have i:¬e=3/\¬e=4/\¬e=2:=(by rw[c];simp only[bf];omega);refine⟨λf=>absurd f i.2.2,λ_=>?_⟩;simp only at j k;unfold om;simp only[j,k,i,if_false];by_cases r:e=40;{simp[r,se]};by_cases u:e=41;{simp[u,se]};simp[r,u,se]);all_goals
  have i:¬e=3/\¬e=4/\¬e=2/\¬e=40/\¬e=41:=by
   rw[hk]at hw;rw[c];first
    | (have A:yC gB _<16:=(ah.mp (Hg hw)).1
       simp only[bf];omega)
    | (simp only[bf];omega)
  refine⟨λf=>absurd f i.2.2.1,λ_=>?_⟩;unfold om;simp[i,se]
theorem atoms(C:∀{o w p m L},Pr o w p d m L->(m.cZ->d<=8)->m.is du=true->Calls prog 243 #[π (σ ⟨p,0,ν⟩)] w λe w'=>Rdx o w' p d L (kO sub m) e):PX 242 d (kO sub):=by
 intro o w p m L s T;have⟨q,N,fin⟩:=s.start;obtain⟨r,I⟩:∃r,decide (bf m.tk=11)=r:=⟨_,rfl⟩;have K:=J2 s.wf;rw[I]at K;have G:=N.is1 11 r I;have c:=ak (ahg (sub:=sub) s.wf);have D:=λ{w'} (y:Pr (w,q) w' p d m [])=>C y T;have u:=MN (bf m.tk) (iQ m.tk) m.cE (dC m.tk);generalize kO sub m=A at c D ⊢;have E:=ak K;cases r
 .replace c:=ak (c.J E.J);have H:=λ{w'} (y:Pr (w,q) w' p d m [])=>y.take;generalize bf m.tk=f at c u H;generalize om f (iQ m.tk) (dC m.tk)=R at u c;obtain⟨ck,P,cs,O⟩:=R;rcases(show f=2\/f≠2 by omega)with j|j
  all_goals
   (try have Q:((f:Int)==2)=true:=by rw[j];rfl);(try have Q:((f:Int)==2)=false:=FD j);first
    |replace c:=ak (c.J.1 j)
    |replace c:=ak (c.J.2 j)
   go_in;go_wp21;refine G.mono ?_;rintro e V ⟨rfl,B⟩;go_wp21;refine(H B).mono ?_;rintro e X ⟨rfl,k⟩;go_wp21
  {go_ret;rw[c.J];exact⟨_,_,rfl,fin [] (k.alloc _),λ_=>rfl⟩};refine(u _).mono ?_;rintro e w3 ⟨rfl,C⟩;have i:=((k.new #[ι κ f,ι κ m.cE,θ (dC m.tk),ι κ (iQ m.tk)] 113).aU C).new #[.bool false,ι κ P,θ cs] 263;have⟨t0,t1,t2,t3⟩:=eJ i.drop.box;cases O;(case' false=>go_wp21;refine(i.refuse _ _ _ _).mono ?_;rintro e w4 ⟨rfl,i⟩;rw[qU]at i);all_goals have⟨Y,Z,c2⟩:=yS i.box;go_wp2;go_ret;exact⟨_,_,rfl,c.J.2 ▸ fin [] i,λ_=>c.J.1.symm⟩
 go_in;go_wp21;refine G.mono ?_;rintro e V ⟨rfl,B⟩;go_wp21;refine(D B E.J).mono ?_;rintro e X ⟨t,v,rfl,k,U⟩;have M:=ak U;go_wp2;go_ret;exact⟨t,v,rfl,fin [] k,M.J⟩
theorem turns:(PX 242 d (kO sub)->(∀{o w p m L},Pr o w p d m L->(m.cZ->d<=8)->m.is pN=true->Calls prog 214 #[π (σ ⟨p,0,ν⟩),ι κ 13,.func (.func 241) #[π (σ ⟨p,0,ν⟩)] #[]] w λi w'=>Rdx o w' p d L (jL sub m) i)->PX 241 d (jL sub))/\
 (PX 215 d (pH sub)->(∀{o w p m L},Pr o w p d m L->(m.cZ->d<=8)->m.is Ck=true->Calls prog 214 #[π (σ ⟨p,0,ν⟩),ι κ 14,.func (.func 200) #[π (σ ⟨p,0,ν⟩)] #[]] w λi w'=>Rdx o w' p d L (jQ sub m) i)->PX 200 d (jQ sub)):=by
 refine⟨?_,?_⟩;all_goals
  intro M E o w p m L y u;have⟨q,C,fin⟩:=y.start;have hw:=y.wf;first
   | (obtain⟨c,f⟩:∃c,decide (bf m.tk=17)=c:=⟨_,rfl⟩
      have k:m.is pN=decide (bf m.tk=17):=lN (i:=12) hw rfl (by decide);have r:m.is pN=false->jL sub m=kO sub m:=λe=>by unfold jL;rw[aH (by rw[e];decide)]
      rw[f]at k;have B:=C.is1 17 c f;have j:=λ{w'} (s:Pr (w,q) w' p d m []) (e:m.is pN=true)=>E s u e;generalize jL sub m=R at r j ⊢)
   | (obtain⟨c,f⟩:∃c,decide (bf m.tk=37)=c:=⟨_,rfl⟩
      have k:m.is Ck=decide (bf m.tk=37):=fS (i:=16) hw rfl (by decide);have r:m.is Ck=false->jQ sub m=pH sub m:=λe=>by unfold jQ;rw[aH (by rw[e];decide)]
      rw[f]at k;have B:=C.is1 37 c f;have j:=λ{w'} (s:Pr (w,q) w' p d m [])=>E s u;generalize jQ sub m=R at r j ⊢)
  have A:=ak k;have H:=ak r;cases c;all_goals
   go_in;go_wp21;refine B.mono ?_;rintro i O ⟨rfl,D⟩;go_wp21;first
    | (refine(j D A.J).mono ?_)
    | (have K:=H.J A.J
       subst K;refine(M D u).mono ?_)
   rintro i P ⟨t,v,rfl,I,N⟩;have G:=ak N;go_wp2;go_ret;exact⟨t,v,rfl,fin [] I,G.J⟩
theorem tests(hl:AG sub)(Q:PX 230 d (gU sub)):PX 215 d (pH sub):=by
 intro o w p m L aa P;have⟨q,ac,fin⟩:=aa.start;have⟨c,y⟩:=nm (gU sub m);have f:Hid (pH sub m=match mF.find? (λo=>c.2.is o)with
  |some o=>(.two o c.2.cE c.1 (gU sub c.2.aK).1,(gU sub c.2.aK).2)
  |none=>if c.2.is kIs then(.lA (c.2.aK.is Ck) c.2.cE c.1,(if c.2.aK.is Ck then c.2.aK.aK else c.2.aK).take tZ)else c):=ak (by rw[y];rfl)
 have M:=Q ac P;have hb:c.2.cZ->d<=8:=λD=>P ((iR.total hl).back (m:=m) (y ▸ D));rw[<- y]at M;generalize pH sub m=R at f ⊢;clear y;go_in;go_wp21;refine M.mono ?_;rintro k w1 ⟨Z,v1,rfl,s,T⟩;have B:=ak T;have A:=JD adV s.wf;have V:c.2.is kIs=decide (bf c.2.tk=38):=fS (i:=17) s.wf rfl (by decide);obtain⟨e,i⟩:∃e,decide (bf c.2.tk∈[8,5,9,6,10,7])=e:=⟨_,rfl⟩;have K:=(s.alloc (ξ #[ι κ 8,ι κ 5,ι κ 9,ι κ 6,ι κ 10,ι κ 7] 111)).Va [8,5,9,6,10,7] w1.heap.size 6 (J1 w1 [8,5,9,6,10,7] _ (λad hj=>match ad,hj with|0,_=>rfl|1,_=>rfl|2,_=>rfl|3,_=>rfl|4,_=>rfl|5,_=>rfl)) (by decide) (by simp) e i;have r:=ak V;clear T V;cases e;{have N:mF.find? (λo=>c.2.is o)=ν:=A.2 (by simpa using i);replace f:=f.J;rw[N]at f;replace f:=ak f;clear N A i;obtain⟨e,i⟩:∃e,decide (bf c.2.tk=38)=e:=⟨_,rfl⟩;have H:=ak i;clear i;cases e;(all_goals go_wp21;refine K.mono ?_;rintro k w2 ⟨rfl,u⟩;go_wp21;refine(u.JB 38 _ H.J).mono ?_;rintro k w3 ⟨rfl,j⟩;replace r:=ak (r.J.trans H.J));{go_wp2;go_ret;have C:R=c:=f.J.trans (by simp only[r.J];rfl);rw[C];exact⟨Z,v1,rfl,fin [] j,B.J⟩};change Pr _ _ _ _ c.2.aK _ at j;have G:=(u.goes r.J).1;have E:c.2.aK.is Ck=decide (bf c.2.aK.tk=37):=fS (i:=16) j.wf rfl (by decide);obtain⟨e,i⟩:∃e,decide (bf c.2.aK.tk=37)=e:=⟨_,rfl⟩;rw[i]at E;have T4:=j.JB 37 e i;have C:R=(.lA e c.2.cE c.1,(cond e c.2.aK.aK c.2.aK).take tZ):=f.J.trans (by simp only[r.J,E,if_true];cases e<;>rfl);subst C;clear i E;go_wp21;refine T4.mono ?_;rintro k w4 ⟨rfl,S4⟩;go_wp21;refine(S4.sign aqy).mono ?_;rintro k w5 ⟨rfl,S5⟩;go_wp2;go_ret;refine⟨_,_,rfl,fin [] S5,λ_=>?_⟩;show _=Value.iface _ (χ #[se c.1,_]);rw[<- B.J G]};have⟨op,I,Y,X⟩:=A.1 (by simpa using i);have O:mF.find? (λo=>c.2.is o)=σ op:=I;replace f:=f.J;rw[O]at f;subst f;have G:=(s.goes X).1;have LG:=ak Y;clear A i I O Y X;go_wp21;refine K.mono ?_;rintro k w2 ⟨rfl,u⟩;go_wp21;refine(u.Xg call230 Q hb Z v1 _ LG.J).mono ?_;rintro k w3 ⟨t3,v3,rfl,j,U⟩;have ab:=ak U;clear U;go_wp2;go_ret;refine⟨_,_,rfl,fin [] j,λD=>?_⟩;show _=Value.iface _ (χ #[_,_,se c.1,se _]);rw[<- B.J G,<- ab.J D]
theorem Ot(s:m.cZ)(f:d<=8):(m.is du=true->(ny (lvl (8 - (d+1))) (qm d m)).2.take fK=(kO (lvl (8 - d)) m).2/\((kO (lvl (8 - d)) m).2.cZ->se (ny (lvl (8 - (d+1))) (qm d m)).1=se (kO (lvl (8 - d)) m).1))/\
 (m.is pN=true->(jL (lvl (8 - (d+1))) (qm d m)).2=(jL (lvl (8 - d)) m).2/\((jL (lvl (8 - d)) m).2.cZ->se (.neg m.cE (jL (lvl (8 - (d+1))) (qm d m)).1)=se (jL (lvl (8 - d)) m).1))/\
 (m.is Ck=true->(jQ (lvl (8 - (d+1))) (qm d m)).2=(jQ (lvl (8 - d)) m).2/\((jQ (lvl (8 - d)) m).2.cZ->se (.not m.cE (jQ (lvl (8 - (d+1))) (qm d m)).1)=se (jQ (lvl (8 - d)) m).1)):=by
 by_cases k:d=8
 .subst k;have i:qm 8 m=.dead 3 m.cE:=by cases m with
   |live t u=>rfl
   |dead a b=>exact absurd s (λf=>f)
  have j:m.cQ 3=.dead 3 m.cE:=i;rw[i];refine⟨λc=>?_,λc=>?_,λc=>?_⟩;{unfold kO;rw[aN c];exact⟨j.symm,λf=>absurd f (ez _ _)⟩}
  .conv=>{ lhs;rhs;unfold jL }
   unfold jL;rw[aN c];exact⟨j.symm,λf=>absurd f (ez _ _)⟩
  unfold jQ;rw[aN c];exact⟨j.symm,λf=>absurd f (ez _ _)⟩
 obtain⟨e,r⟩:∃e,8 - d=e+1:=⟨7 - d,by omega⟩;have i:qm d m=m.aK:=aH k;rw[show 8 - (d+1)=e by omega,r,i];refine⟨λc=>?_,λc=>?_,λc=>?_⟩;{unfold kO;rw[aN c];exact⟨rfl,λ_=>rfl⟩};{rw[show jL (lvl (e+1)) m=(.neg m.cE (jL (lvl e) m.aK).1,(jL (lvl e) m.aK).2)from aN c];exact⟨rfl,λ_=>rfl⟩};rw[show jQ (lvl (e+1)) m=(.not m.cE (jQ (lvl e) m.aK).1,(jQ (lvl e) m.aK).2)from aN c];exact⟨rfl,λ_=>rfl⟩
theorem levels:∀y d,d+y=9->PX 241 d (jL (lvl (8 - d)))/\PX 200 d (jQ (lvl (8 - d)))/\PX 152 d (ny (lvl (8 - d))):=by
 intro y;induction y with
 |zero=>
  intro d E;have f:=C0 (8 - d);have A:∀{m:aD} {D:Γ} {B:Prop},(m.cZ->d<=8)->m.is D=true->B:=λ{m D B} c e=>by
   cases m with
   |live t M=>have:=c trivial;omega
   |dead a b=>simp[aD.is,aD.tk]at e
  have s:PX 241 d (jL (lvl (8 - d))):=turns.1 (atoms (sub:=lvl (8 - d)) (λ_ c e=>A c e)) (λ_ c e=>A c e);have u:PX 200 d (jQ (lvl (8 - d))):=turns.2 (tests f ((AW f).2.1 ((AW f).1 s))) (λ_ c e=>A c e);exact⟨s,u,(AW f).2.2.2 ((AW f).2.2.1 u)⟩
 |succ y K=>
  intro d E;have f:=C0 (8 - d);have⟨G,H,I⟩:=K (d+1) (by omega);have s:PX 241 d (jL (lvl (8 - d))):=turns.1 (atoms (sub:=lvl (8 - d)) (λj c e=>by
   have i:=(j.goes e).1;have n:=(Ot i (c i)).1 e;refine(j.bracket I (c i)).mono ?_;rintro C w' ⟨t,v,rfl,S,r⟩;rw[n.1]at S;exact⟨t,v,rfl,S,λk=>(r (j8 (n.1 ▸ k))).trans (n.2 k)⟩)) (λj c e=>by
   have i:=(j.goes e).1;have n:=(Ot i (c i)).2.1 e;refine(j.nested call241 G (c i) 13).mono ?_;rintro C w' ⟨t,v,rfl,S,r⟩;rw[n.1]at S;exact⟨_,_,rfl,S,λk=>by rw[<- n.2 k,r (n.1 ▸ k)];rfl⟩)
  have u:PX 200 d (jQ (lvl (8 - d))):=turns.2 (tests f ((AW f).2.1 ((AW f).1 s))) (λj c e=>by
   have i:=(j.goes e).1;have n:=(Ot i (c i)).2.2 e;refine(j.nested call200 H (c i) 14).mono ?_;rintro C w' ⟨t,v,rfl,S,r⟩;rw[n.1]at S;exact⟨_,_,rfl,S,λk=>by rw[<- n.2 k,r (n.1 ▸ k)];rfl⟩)
  exact⟨s,u,(AW f).2.2.2 ((AW f).2.2.1 u)⟩
theorem Pr.formula(f:Pr o w p 0 m L):Calls prog 108 #[π (σ ⟨p,0,ν⟩)] w λe w'=>
 ∃t v,e=τ (χ #[ι κ m.cE,.iface t v])/\Pr o w' p 0 (oL m).2 L/\((oL m).2.cZ->.iface t v=se (oL m).1.1):=by have⟨q,j,fin⟩:=f.start;have y:=λw=>(xK (bf m.tk) m.cE (dC m.tk) (iQ m.tk) w).2.1;go_in;go_wp21;refine(j.new #[ι κ 0,.nilIface] 230).aK.mono ?_;rintro e A ⟨rfl,k⟩;go_wp21;refine((levels 9 0 rfl).2.2 k (λ_=>by omega)).mono ?_;rintro e B ⟨t,v,rfl,c,r⟩;have i:=ak r;have⟨s,u⟩:=gC c.box;have z:=c.fz;go_wp2;(try simp only[Exit.inBlock,Exit.then]);refine aE (v:=_) (by simp[results,results108,go_sem,s,u];rfl) rfl ?_;exact⟨t,v,rfl,fin [] (c.Zs _ _),i.J⟩
end
def nt(m:aD):aD:=m.aI.2.take zL
def Ou(m:aD):Bool:=m.is kW||m.is zA||m.is zR||m.is Bq
def qJ(m:aD):aD:=(if Ou (nt m)then(nt m).aK else(nt m).cQ 2).take du
def fnM(m:aD):Γ:=match m.tk with
 |.cU s=>s
 |.sign s=>s
 |_=>ByteArray.empty
theorem Bn(m:aD):kX m=if(nt m).is kW&&(qJ m).is fK then(⟨m.aI.1,fnM (nt m),(nt m).cE,(ByteArray.empty,0),true⟩,(qJ m).take fK)
 else(⟨m.aI.1,fnM (nt m),(nt m).cE,(qJ m).aI.1,false⟩,(qJ m).aI.2.take fK):=rfl
theorem Dg(m:aD):(qJ m).len<=(nt m).len:=by unfold qJ;refine ay (take_len _ _) ?_;split;{exact dX};exact sR _ 2
theorem Vz(m:aD):(nt m).len<=m.len:=ay (take_len _ _) (eQ m)
theorem MS(m:aD):(kX m).2.len<=m.len:=by have c:=ay (Dg m) (Vz m);rw[Bn];split;{exact ay (take_len _ _) c};exact ay (take_len _ _) (ay (eQ _) c)
theorem adW{m:aD}(hw:m.tk.wf):Ou m=decide (bf m.tk=45\/bf m.tk=46\/bf m.tk=47\/bf m.tk=48):=by unfold Ou;rw[show m.is kW=decide (bf m.tk=45)from fS (i:=24) hw rfl (by decide),show m.is zA=decide (bf m.tk=46)from fS (i:=25) hw rfl (by decide),show m.is zR=decide (bf m.tk=47)from fS (i:=26) hw rfl (by decide),show m.is Bq=decide (bf m.tk=48)from fS (i:=27) hw rfl (by decide)];by_cases c:bf m.tk=45;{simp[c]};by_cases e:bf m.tk=46;{simp[e]};by_cases f:bf m.tk=47;{simp[f]};by_cases i:bf m.tk=48;{simp[i]};simp[c,e,f,i]
def Xi(way:Nat)(m:aD):aD:=if way=45/\bf m.tk=12 then m else m.aI.2
theorem adX{m:aD}(k:(nt m).tk.wf)(i:(qJ m).tk.wf):(Xi (bf (nt m).tk) (qJ m)).take fK=(kX m).2:=by have j:(nt m).is kW=decide (bf (nt m).tk=45):=fS (i:=24) k rfl (by decide);rw[Bn,j,FF i];unfold Xi;by_cases c:bf (nt m).tk=45;{by_cases e:bf (qJ m).tk=12;{rw[aN ⟨c,e⟩,cJ c,cJ e];rfl};rw[aH (λf=>e f.2),cJ c,aV e];rfl};rw[aH (λf=>c f.1),aV c];rfl
theorem RP{m:aD}(hw:m.tk.wf):m.is jl=decide (bf m.tk=15):=lN (i:=10) hw rfl (by decide)
def Dh(m:aD):Δ Nm×aD:=match m.tk with
 |.aI _=>fL m
 |_=>([],m)
def Xj(m:aD):Δ Nm×aD:=if bf m.tk=15 then([],m)else fL m
theorem ahh{m:aD}(hw:m.tk.wf):(Xj m).2.take jl=(Dh m).2.take jl/\(((Dh m).2.take jl).cZ->(Xj m).1=(Dh m).1):=by have r:=RP hw;unfold Xj Dh;have other:(¬∃t,m.tk=.aI t)->¬bf m.tk=15->(fL m).2.take jl=m.take jl/\¬(m.take jl).cZ:=(by intro s c;have u:m.aI.2=m.cQ 2:=(by unfold aD.aI;split;{exact absurd ⟨_,‹m.tk=_›⟩ s};rfl);have⟨a,b,e⟩:=C4 m 2;have i:(fL m).2=.dead a b:=Zv (by rw[u,e]);have j:m.take jl=.dead a b:=(by unfold aD.take;rw[r,aV c,<- e];rfl);rw[i,j];exact⟨rfl,λf=>f⟩);by_cases c:bf m.tk=15;{rw[aN c];cases hk:m.tk with|aI t=>rw[hk]at c;simp[bf]at c|_=>exact⟨rfl,λ_=>rfl⟩};rw[aH c];cases hk:m.tk with|aI t=>exact⟨rfl,λ_=>rfl⟩|_=>have⟨A,B⟩:=other (by rw[hk];rintro⟨t,y⟩;cases y) c;exact⟨A,λk=>absurd k B⟩
theorem Gm(m:aD):(eZ m).2.len<=m.len:=ay (Rs _) (ay (take_len _ _) (eQ m))
section
variable {o:ω×Option Nat} {w w':ω} {p d:Nat} {m:aD} {L:Δ It}
theorem iEq(hw:m.tk.wf):m.is zL=decide (bf m.tk=8):=lN (i:=3) hw rfl (by decide)
theorem iOn(hw:m.tk.wf):m.is p8=decide (bf m.tk=25):=fS (i:=4) hw rfl (by decide)
theorem aqA(hw:m.tk.wf):m.is Lx=decide (bf m.tk=28):=fS (i:=7) hw rfl (by decide)
theorem adY(p d:Nat):Vm 74 p d aD.aI rG sh2:=⟨call74,eQ,λo w m L c=>by
 refine c.aI.mono ?_;rintro f w' ⟨rfl,S⟩;exact⟨_,rfl,⟨_,_,rfl⟩,S,λe=>by rw[<- (oP m).2 e];rfl⟩⟩
theorem Pr.bJ(i:Pr o w p d m L):Calls prog 107 #[π (σ ⟨p,0,ν⟩)] w λf w'=>
 ∃c n e xs,f=τ (ψ c n e)/\Pr o w' p d (fL m).2 (.inr (ψ c n e,117,2,n,xs)::L)/\((fL m).2.cZ->xs=(fL m).1.flatMap rG):=by have⟨q,k,fin⟩:=i.start;go_in;go_wp21;refine(lists.1 _ _ rfl rfl k (adY p d)).mono ?_;rintro f u ⟨c,n,e,xs,rfl,r,s⟩;have j:=ak s;go_wp2;go_ret;exact⟨c,n,e,xs,rfl,fin [_] r,j.J⟩
theorem VA(p:Nat):Vm 153 p 0 eZ (λa=>rG a.1) sh2:=⟨call153,Gm,λo w m L i=>by
 have⟨q,j,fin⟩:=i.start;go_in;go_wp21;refine(j.new #[θ ⟨#[]⟩,ι κ 0] 117).aI.mono ?_;rintro f y ⟨rfl,e⟩;have A:¬(y.heap.size=w.heap.size):=by have:=e.at;omega
 go_wp21;refine((e.new #[θ (dC m.tk),ι κ m.cE] 117).sign iEq).mono ?_;rintro f D ⟨rfl,k⟩;go_wp21;refine k.formula.mono ?_;rintro f E ⟨t,v,rfl,c,-⟩;have⟨B,C⟩:=gC c.box;have⟨s,u⟩:=gC c.drop.box;have z:=c.drop.fz;go_wp2
 (try simp only[Exit.inBlock,Exit.then])
 refine aE (v:=_) (by simp[results,results153,go_sem,s,u];rfl) rfl ?_;refine⟨_,rfl,⟨_,_,rfl⟩,fin [] (c.drop.Zs _ _),λr=>?_⟩;show _=rG m.aI.1;rw[<- (oP m).2 (j8 (Fx r))];rfl⟩
theorem ZV(p d:Nat):Vm 156 p d dT (λa=>rG a.1) sh2:=⟨call156,vK,λo w m L i=>by
 have⟨q,j,fin⟩:=i.start;go_in;go_wp21;refine(j.new #[θ ⟨#[]⟩,ι κ 0] 117).aI.mono ?_;rintro A B ⟨rfl,e⟩;have r:cond (decide (bf m.aI.2.tk=28)) m.aI.2.aK m.aI.2=(dT m).2:=by
  unfold dT;rw[aqA e.wf]
  cases decide (bf m.aI.2.tk=28)<;>rfl
 have f:=(e.new #[θ (dC m.tk),ι κ m.cE] 117).JB 28 _ rfl;rw[r]at f;have C:¬(B.heap.size=w.heap.size):=by have:=e.at;omega
 generalize decide (bf m.aI.2.tk=28)=k at f;go_wp21;refine f.mono ?_;rintro A G ⟨rfl,c⟩;have⟨D,E⟩:=gC c.box;have⟨u,y⟩:=gC c.drop.box;have z:=c.drop.fz;go_wp2
 (try simp only[Exit.inBlock,Exit.then])
 refine aE (v:=_) (by simp[results,results156,go_sem,u,y];rfl) rfl ?_;refine⟨_,rfl,⟨_,_,rfl⟩,fin [] (c.drop.Zs _ _),λs=>?_⟩;show _=rG m.aI.1;rw[<- (oP m).2 (back (m:=m.aI.2) (by unfold dT;simp only;split;exact dX;exact ae _) s)];rfl⟩
theorem Pr.join(e:Pr o w p d m L):Calls prog 154 #[π (σ ⟨p,0,ν⟩)] w λc w'=>
 c=τ (.tuple #[])/\Pr o w' p d ((m.aI.2.take p8).aI.2.take zL).aI.2 L:=by have⟨q,f,fin⟩:=e.start;go_in;go_wp21;refine f.aI.mono ?_;rintro c i ⟨rfl,S⟩;go_wp21;refine(S.sign iOn).mono ?_;rintro c j ⟨rfl,S⟩;go_wp21;refine S.aI.mono ?_;rintro c k ⟨rfl,S⟩;go_wp21;refine(S.sign iEq).mono ?_;rintro c r ⟨rfl,S⟩;go_wp21;refine S.aI.mono ?_;rintro c s ⟨rfl,S⟩;go_wp2;go_end0;exact⟨rfl,fin [] S⟩
end
theorem ZW(m:aD):(kX m).1.aI=m.aI.1:=by rw[Bn];split<;>rfl
theorem ZX(m:aD):(kX m).2.len<=(nt m).len:=by rw[Bn];split;{exact ay (take_len _ _) (Dg m)};exact ay (take_len _ _) (ay (eQ _) (Dg m))
theorem adZ(p d:Nat):Vm 182 p d kX (λa=>rG a.aI) sh2:=⟨call182,MS,λo w m L N=>by
 have⟨q,T,fin⟩:=N.start;go_in;go_wp21;refine(T.new #[θ ⟨#[]⟩,ι κ 0] 117).aI.mono ?_;rintro i Z ⟨rfl,C⟩;have jK:¬(Z.heap.size=w.heap.size):=by have:=C.at;omega
 go_wp21;refine((C.new #[θ (dC m.tk),ι κ m.cE] 117).sign iEq).mono ?_;rintro i w2 ⟨rfl,y⟩
 change Pr _ _ _ _ (nt m) _ at y;have j:=ak (adW y.wf);have B:=ak (λ(f:(qJ m).tk.wf)=>adX y.wf f);have G:=y.take;generalize bf (nt m).tk=c at G j B;rcases(show c=45\/c=46\/c=47\/c=48\/(c≠45/\c≠46/\c≠47/\c≠48)by omega)with rfl|rfl|rfl|rfl|⟨f,I,K,M⟩
 all_goals
  (try
    have e1:((c:Int)==45)=false:=FD f;have e2:((c:Int)==46)=false:=FD I;have e3:((c:Int)==47)=false:=FD K;have e4:((c:Int)==48)=false:=FD M;have e5:((c:Int) != 45)=true:=by rw[dZ];omega
    have P:=ak f)
  first
   |replace j:=ak (j.J.trans (cJ (by omega)))
   |replace j:=ak (j.J.trans (aV (by omega)))
  (try clear f I K M)
  go_wp21;refine G.mono ?_;rintro i w3 ⟨rfl,D⟩;go_wp21
  first
   | ((with_reducible refine dM ((D.new _ _).refuse _ _ _ _) ?_)
      rintro i w4 ⟨rfl,E⟩;rw[qU]at E;go_wp21;refine(E.sign J2).mono ?_)
   |refine((D.new _ _).sign J2).mono ?_
  rintro i w5 ⟨rfl,e⟩;have U:∀A:aD,A=(if Ou (nt m)then(nt m).aK else(nt m).cQ 2)->A.take du=qJ m:=λA f=>by rw[f];rfl
  rw[U _ (by rw[j.J];rfl)]at e;have⟨t0,t1,t2,t3⟩:=eJ e.box;have Q:=ak (B.J e.wf);obtain⟨u,H⟩:∃u,decide (bf (qJ m).tk=12)=u:=⟨_,rfl⟩;have R:=e.is1 12 u H;have O:Hid (∀c,Xi c (qJ m)=if c=45/\u=true then qJ m else(qJ m).aI.2):=ak λc=>by rw[<- H];unfold Xi;simp only[decide_eq_true_eq]
  cases u
  all_goals
   go_wp21
   (try
     (with_reducible refine dM R ?_)
     rintro i w6 ⟨rfl,e⟩;go_wp2_with fail)
   (try
     (with_reducible refine dM e.aI ?_)
     rintro i w7 ⟨rfl,e⟩;go_wp2_with fail)
   refine(e.sign FF).mono ?_;rintro i w8 ⟨rfl,r⟩;have k:=Q.J;rw[O.J]at k
   first
    |rw[aH (λs=>absurd s.1 (by decide))]at k
    |rw[aH (λs=>absurd s.1 P.J)]at k
    |rw[aH (λs=>absurd s.2 (by decide))]at k
    |rw[aN ⟨by trivial,by trivial⟩]at k
   rw[k]at r;have⟨n0,n1⟩:=gC r.drop.box;have⟨X,Y⟩:=gC r.drop.drop.box;have z:=r.drop.drop.fz;go_wp2
   (try simp only[Exit.inBlock,Exit.then])
   refine aE (v:=_) (by simp[results,results182,go_sem,X,Y];rfl) rfl ?_;refine⟨_,rfl,⟨_,_,rfl⟩,fin [] (r.drop.drop.Zs _ _),λV=>?_⟩;show _=rG (kX m).1.aI;rw[ZW,<- (oP m).2 (j8 (back (ZX m) V))];rfl⟩
section
variable {o:ω×Option Nat} {w w':ω} {p d:Nat} {m:aD} {L:Δ It}
theorem Pr.group(f:Pr o w p d m L):Calls prog 155 #[π (σ ⟨p,0,ν⟩)] w λe w'=>
 e=τ (.tuple #[])/\Pr o w' p d (de kX ((Dh m).2.take jl)).2 L:=by have⟨q,k,fin⟩:=f.start;obtain⟨c,i⟩:∃c,decide (bf m.tk=15)=c:=⟨_,rfl⟩;have r:(cond c m (fL m).2).take jl=(Dh m).2.take jl:=(by rw[<- (ahh f.wf).1,<- i];unfold Xj;by_cases s:bf m.tk=15<;>simp[s]);have j:=k.is1 15 c i;rw[<- r];go_in;go_wp21;refine j.mono ?_;rintro e D ⟨rfl,S⟩;cases c;(case' false=>go_wp21;refine S.bJ.mono ?_;rintro e E ⟨y,n,B,xs,rfl,S,-⟩;replace S:=S.drop);all_goals go_wp21;refine(S.sign RP).mono ?_;rintro e G ⟨rfl,S⟩;go_wp21;refine(lists.1 _ _ rfl rfl S (adZ p d)).mono ?_;rintro e H ⟨A,u,C,I,rfl,S,-⟩;go_wp2;go_end0;exact⟨rfl,fin [] S⟩
end
theorem MT(m:aD):(eE m).2.len<=m.len:=by unfold eE;split;{exact ay (Rs _) dX};split;{exact ay (py Gm _) dX};split;{exact ay (eQ _) (ay (take_len _ _) (ay (eQ _) (ay (take_len _ _) (ay (eQ _) dX))))};split;{refine ay (py MS _) (ay (take_len _ _) ?_);split;{exact ay (py eQ _) dX};exact dX};split;{exact ay (py vK _) dX};simp only;split;{exact ay dX (take_len _ _)};exact ay (sR _ 2) (take_len _ _)
theorem ad0(m:aD):(eE m).1.pl=m.cE:=by unfold eE;repeat' (first|rfl|split|simp only)
theorem al2{m:aD}(hw:m.tk.wf):m.is Xq=decide (bf m.tk=14):=lN (i:=9) hw rfl (by decide)
section
variable {m:aD} (hw:m.tk.wf)
include hw
theorem vW:m.is fQ=decide (bf m.tk=22):=fS (i:=1) hw rfl (by decide)
theorem MU:m.is rq=decide (bf m.tk=23):=fS (i:=2) hw rfl (by decide)
theorem J3:m.is mT=decide (bf m.tk=24):=fS (i:=3) hw rfl (by decide)
theorem Hn:m.is kh=decide (bf m.tk=26):=fS (i:=5) hw rfl (by decide)
theorem Ov:m.is kE=decide (bf m.tk=27):=fS (i:=6) hw rfl (by decide)
theorem Xk:m.is iY=decide (bf m.tk=29):=fS (i:=8) hw rfl (by decide)
theorem RQ(c:bf m.tk=22):(eE m).2=(oL m.aK).2:=by unfold eE;rw[vW hw,cJ c];rfl
theorem ZY(c:bf m.tk=23):(eE m).2=(de eZ m.aK).2:=by unfold eE;rw[vW hw,MU hw,cJ c,aV (by omega)];rfl
theorem VB(c:bf m.tk=24):(eE m).2=((m.aK.aI.2.take p8).aI.2.take zL).aI.2:=by unfold eE;rw[vW hw,MU hw,J3 hw,cJ c,aV (show¬bf m.tk=22 by omega),aV (show¬bf m.tk=23 by omega)];rfl
theorem RS(c:bf m.tk=26):(eE m).2=(de kX ((Dh m.aK).2.take jl)).2:=by unfold eE;rw[vW hw,MU hw,J3 hw,Hn hw,cJ c,aV (show¬bf m.tk=22 by omega),aV (show¬bf m.tk=23 by omega),aV (show¬bf m.tk=24 by omega)];rfl
theorem RT(c:bf m.tk=27):(eE m).2=(de dT m.aK).2:=by unfold eE;rw[vW hw,MU hw,J3 hw,Hn hw,Ov hw,cJ c,aV (show¬bf m.tk=22 by omega),aV (show¬bf m.tk=23 by omega),aV (show¬bf m.tk=24 by omega),aV (show¬bf m.tk=26 by omega)];rfl
def ahi(m:aD):aD:=match m.aK.tk with
 |.num _=>m.aK.aK
 |_=>m.aK.cQ 2
theorem RU(c:bf m.tk=29):(eE m).2=ahi m:=by
 have e:m.take iY=m.aK:=by unfold aD.take;rw[Xk hw,cJ c];rfl
 unfold eE ahi;rw[vW hw,MU hw,J3 hw,Hn hw,Ov hw,e,aV (show¬bf m.tk=22 by omega),aV (show¬bf m.tk=23 by omega),aV (show¬bf m.tk=24 by omega),aV (show¬bf m.tk=26 by omega),aV (show¬bf m.tk=27 by omega)];dsimp only;cases m.aK.tk<;>rfl
theorem VC(e:¬bf m.tk=22)(f:¬bf m.tk=23)(i:¬bf m.tk=24)(j:¬bf m.tk=26)(k:¬bf m.tk=27)(r:¬bf m.tk=29):(eE m).2=m.cQ 2:=by
 have s:m.take iY=m.cQ 2:=by unfold aD.take;rw[Xk hw,aV r];rfl
 unfold eE;rw[vW hw,MU hw,J3 hw,Hn hw,Ov hw,s,aV e,aV f,aV i,aV j,aV k];obtain⟨a,b,c⟩:=C4 m 2;rw[c];rfl
end
theorem al3(m:aD):cond (decide (bf m.aK.tk=3)) m.aK.aK (m.aK.cQ 2)=ahi m:=by unfold ahi;cases m.aK.tk<;>first|rfl|(rw[aV (by simp only[bf];omega)];rfl)
theorem Z0{e:Type}{c:e->Δ υ}{z:Nat}(f:∀a,(c a).length=z)(l:Δ e):(l.flatMap c).length=Λ l*z:=by induction l with|nil=>simp|cons a l i=>rw[eD,au,f,i,cw,rS];omega
section
variable {o:ω×Option Nat} {w w':ω} {p d:Nat} {m:aD} {L:Δ It}
theorem yV{e:Type}{c:e->Δ υ}{z n:Nat}{t:TypeId}{v:υ}{l:Δ e}(f:Φ w i t z v n (l.flatMap c))(j:∀a,(c a).length=z)(k:0<z):n=Λ l:=by have:=f.1;rw[Z0 j]at this;exact(Nat.eq_of_mul_eq_mul_right k this).symm
theorem Pr.stage(y:Pr o w p 0 m L):Calls prog 110 #[π (σ ⟨p,0,ν⟩)] w λf w'=>
 f=τ (χ #[ι κ m.cE])/\Pr o w' p 0 (eE m).2 L:=by
 have hw:=y.wf;obtain⟨q,O,fin⟩:=y.start;have A:=O.new #[ι κ 0] 180 |>.take;obtain⟨c,i⟩:=nm (bf m.tk);rw[<- i]at A;have N:=λs (r:Pr (w,q) s p 0 m.aK [.inl (w.heap.size,#[ι κ 0],180)])=>r.new #[ι κ c,ι κ m.cE,θ (dC m.tk),ι κ (iQ m.tk)] 113;rcases(show c=22\/c=23\/c=29\/c=24\/c=26\/c=27\/(¬c=22/\¬c=23/\¬c=24/\¬c=26/\¬c=27/\¬c=29)by omega)with rfl|rfl|rfl|rfl|rfl|rfl|⟨B,C,D,E,G,H⟩
 all_goals
  (try
    have T:((c:Int)==22)=false:=FD B;have U:((c:Int)==23)=false:=FD C;have V:((c:Int)==24)=false:=FD D;have X:((c:Int)==26)=false:=FD E;have Y:((c:Int)==27)=false:=FD G;have Z:((c:Int)==29)=false:=FD H)
  first
   |have j:=ak (RQ hw i.symm)
   |have j:=ak (ZY hw i.symm)
   |have j:=ak (RU hw i.symm)
   |have j:=ak (VB hw i.symm)
   |have j:=ak (RS hw i.symm)
   |have j:=ak (RT hw i.symm)
   |have j:=ak (VC hw (by omega) (by omega) (by omega) (by omega) (by omega) (by omega))
  (try clear B C D E G H);clear i;go_in;go_wp21;refine A.mono ?_;rintro f s ⟨rfl,r⟩;have S:=N s r;have jK:¬(s.heap.size=w.heap.size):=by have:=r.at;omega
  have I:=lists.1 _ _ rfl rfl S (VA p);have K:=lists.1 _ _ rfl rfl S (ZV p 0);have M:=S.must 3 _ rfl;have hf:=λw=>(xK (bf m.aK.tk) m.aK.cE (dC m.aK.tk) (iQ m.aK.tk) w).2.2;go_wp21;first
   | ((with_reducible refine dM S.formula ?_);rintro f k ⟨t,v,rfl,e,-⟩)
   | ((with_reducible refine dM I ?_);rintro f k ⟨Q,n,R,xs,rfl,u,-⟩;have e:=u.drop)
   | ((with_reducible refine dM S.join ?_);rintro f k ⟨rfl,e⟩)
   | ((with_reducible refine dM S.group ?_);rintro f k ⟨rfl,e⟩)
   | ((with_reducible refine dM K ?_);rintro f k ⟨Q,n,R,xs,rfl,u,-⟩;have e:=u.drop)
   | ((with_reducible refine dM M ?_);rintro f k ⟨rfl,e⟩;rw[al3]at e)
   | ((with_reducible refine dM (S.refuse _ _ _ _) ?_);rintro f k ⟨rfl,e⟩;rw[qU]at e)
  rw[<- j.J]at e;obtain⟨y0,y1,y2,y3⟩:=eJ e.box;have P:Ξ k ⟨w.heap.size,0,ν⟩=σ (ι κ 0):=bB e.drop.box 0;have z:=e.drop.fz;go_wp2;(try simp only[Exit.inBlock,Exit.then]);refine aE (v:=_) (by simp[results,results110,go_sem,P];rfl) rfl ?_;exact⟨rfl,fin [] (e.drop.put 0 _)⟩
end
theorem Tryz.VD:(prog.info? 180).map (λc=>(c.zero,c.size,c.bytes))=σ (σ (χ #[ι κ 0]),1,8):=by kernel_rfl
theorem Tryz.RV:(prog.info? 219).map (λc=>(c.zero,c.size,c.bytes))=σ (σ (χ #[ι κ 0,ψ ν 0 0]),2,32):=by kernel_rfl
section
variable {o:ω×Option Nat} {w w':ω} {p d:Nat} {m:aD} {L:Δ It}
theorem Pr.lies{t:TypeId}{z n bytes:Nat}{xs:Δ υ}{cs:Array υ}(S:Pr o w p d m (.inr (ψ c n i,u,z,n,xs)::L))
 {Z:Array Oper} {e:Oper} {a:Act} {A:Act->ω->Prop} {C:Exit->Act->ω->Prop} {B:Prop} (D:e.guard=ν) (y x:Operand) (k:e.op=.call { callee:=.builtin .append,args:=#[y,x],argTypes:=#[t,t] })
 (P:prog.underlying t=σ (.slice u)) (I:(prog.info? u).map (λs=>(s.zero,s.size,s.bytes))=σ (σ r,z,bytes)) (T:r.cells.size=z) (R:0<z) (j:bytes<=1000) (hn:n<=1000)
 (O:a.eval y=ψ c n i) (Q:a.eval x=ψ (σ ⟨w.heap.size,0,ν⟩) 1 1) (K:cs.size=z) (H:∀aa∈cs.toList,aa.oneCell'=true)
 (G:∀g cap w',Pr o w' p d m (.inr (ψ (σ ⟨g,0,ν⟩) (n+1) cap,u,z,n+1,xs++cs.toList)::L)->A (a.put e.dst (ψ (σ ⟨g,0,ν⟩) (n+1) cap)) w'):if Region.wanted e (yielded Z a.tmps)=true then Oper.wp prog e a (w.alloc (ξ cs u)) A C else B:=by obtain⟨U,N,X,Y,V⟩:=gq I;have f:=S.alloc (ξ cs u);refine step_append_lies _ D y x t k o.1.heap.size u U r z bytes P N X Y V T R _ n xs O f.row ⟨w.heap.size,0,ν⟩ 1 1 cs.toList Q (by simpa using K) (World.news_of_block (az w (ξ cs u))) H (by decide) (by unfold maxLen;omega) ?_ f.fr.size _ rfl ?_;{have:(n+1)*bytes<=1001*1000:=jr (by omega) j;omega};intro g cap w' k M j _;exact G g cap w' (f.app k M (j.imp id (λE=>uF E.symm)))
def Z1(ss:Δ dz):Δ υ:=ss.map λs:dz=>oH s.pl
theorem Pr.query(N:Pr o w p 0 m L)(D:Nat)(e:dz):Calls prog 78 #[π (σ ⟨p,0,ν⟩),ι κ D] w λs w'=>
 ∃f i c,s=τ (.iface 120 (χ #[ι κ D,θ (dC m.tk),ι κ m.cE,ψ f (Λ c) i]))/\Pr o w' p 0 (jc m.aI.2.len [e] m.aI.2).2 (.inr (ψ f (Λ c) i,180,1,Λ c,Z1 c)::L)/\
   (jc m.aI.2.len [e] m.aI.2).1=e::c:=by
 obtain⟨q,I,fin⟩:=N.start;have Gt:=I.alM;have Z:=eQ m;go_in;go_wp21;refine I.aI.mono ?_;rintro s X ⟨rfl,Q⟩;have R:=(Q.nil 180 1).new #[ι κ D,θ (dC m.tk),ι κ m.cE,ψ ν 0 0] 120;go_wp2;go_loopw[] (λwr=>∃(m':aD) (f:Option Addr) (i:Nat) (c:Δ dz) (r n:Nat),Pr (w,q) wr p 0 m' [.inl (X.heap.size,#[ι κ D,θ (dC m.tk),ι κ m.cE,ψ f n i],120),.inr (ψ f n i,180,1,n,Z1 c)]/\n+m'.len<=400/\m'.len<=r/\Hid (jc r (e::c) m'=jc m.aI.2.len [e] m.aI.2/\n=Λ c)) (λwr=>MR wr p);case atStart=>exact⟨_,_,_,[],_,0,R,by omega,ae _,ak ⟨rfl,rfl⟩⟩
 case round=>
  obtain⟨m',f,i,c,r,n,y,hn,hf,u⟩:=hrel;have G:=al2 y.wf;have O:=ak y.left;obtain⟨C,H⟩:∃C,decide (bf m'.tk=14)=C:=⟨_,rfl⟩;rw[H]at G;have K:=y.JB 14 C H;have E:=ak G;clear H G;cases C;{go_wp21;refine K.mono ?_;rintro s Y ⟨rfl,j⟩;obtain⟨c0,c1,c2,T⟩:=eJ j.box;go_wp2;go_ret;have U:=(FY E.J).symm.trans u.J.1;obtain rfl:=u.J.2;rw[<- U];exact⟨f,i,c,rfl,fin [_] j.drop,rfl⟩}
  obtain⟨tU,aa⟩:=y.goes E.J;obtain⟨B,rfl⟩:∃B,r=B+1:=⟨r - 1,by omega⟩;have V:=ak (show jc B (e::(c++[(eE m'.aK).1])) (eE m'.aK).2=jc m.aI.2.len [e] m.aI.2/\n+1=(c++[(eE m'.aK).1]).length from⟨FX u.J.1 E.J,by simp[u.J.2]⟩);have ab:=MT m'.aK;have P:=ak (ad0 m'.aK);go_wp21;refine K.mono ?_;rintro s Y ⟨rfl,j⟩
  change Pr _ _ _ _ m'.aK _ at j;have M:=j.drew.stage;have T:=(eJ j.box).2.2.2;go_wp2;go_region_law(first
   | (refine lL rfl 110 _ _ rfl call110 #[π (σ ⟨p,0,ν⟩)] (by first|(simp[Act.eval];done)|(simp[Act.eval,Act.put];done)|rfl) _ M ?_;rintro s w4 ⟨rfl,k⟩;refine⟨_,rfl,?_⟩;replace k:=k.perm (.swap _ _ _);have u3:=(eJ k.drop.box).2.2.2;have u4:=(eJ (k.alloc (ξ #[ι κ m'.aK.cE] 180)).drop.box).2.2.2)
   | (refine k.lies rfl _ _ rfl underlying118 Tryz.VD rfl (by decide) (by decide) (by omega) (by simp[Act.eval]) (by simp[Act.eval]) rfl (by simp[Value.oneCell'];done) ?_;intro g cap w5 A;have k3:=(eJ A.drop.box).2.2.2;have kf:=A.drop.fz 3))
  all_goals (try go_wp2);go_roundw;(case rel=>refine⟨_,σ ⟨g,0,ν⟩,cap,c++[(eE m'.aK).1],B,n+1,?_,by omega,by omega,V⟩;rw[show Z1 (c++[(eE m'.aK).1])=Z1 c++[ι κ m'.aK.cE]by unfold Z1;rw[cT,<- P.J];rfl];exact(A.perm (.swap _ _ _)).put 3 _);case measure=>rw[((A.perm (.swap _ _ _)).put 3 _).left,O.J];omega
end
theorem ad1{l:Δ UInt8}(i:0<(ByteArray.mk ⟨l⟩).size)(y:fO ⟨⟨l⟩⟩ 0 i≠0):(ByteArray.mk ⟨l⟩).extract 0 (fO ⟨⟨l⟩⟩ 0 i)∈gB:=by
 have r:gB.findIdx (λc=>Lib.hasPrefix l c.data.toList)<Λ gB:=by
  apply fF;intro D;apply y;refine Mn (λe s j=>?_) i;have C:e<Λ gB:=(ah.mp j).1;have f:=List.not_of_lt_findIdx (p:=λc=>Lib.hasPrefix l c.data.toList) (xs:=gB) (i:=e) (by omega);have k:gB[e]=s:=(ah.mp j).2;rw[k]at f;simpa using f
 have A:=tR (p:=λ(c:Γ)=>Lib.hasPrefix l c.data.toList) (xs:=gB) (w:=r);have u:=IU (k:=gB.findIdx (λc=>Lib.hasPrefix l c.data.toList)) (af r) A (λe s j B=>by
  have f:=List.not_of_lt_findIdx (p:=λc=>Lib.hasPrefix l c.data.toList) (xs:=gB) (i:=e) j;have k:gB[e]'(by omega)=s:=(ah.mp B).2;rw[k]at f;simpa using f) i
 rw[u.1,u.2.1];exact ej r
theorem ahj(S:Γ)(c:Nat)(e:c<S.size)(j:fO S c e≠0):S.extract c (c+fO S c e)∈gB:=by
 have f:0<(S.extract c S.size).size:=by rw[mR];omega
 have k:=JA S c e f;have i:=xJ S c 0 (fO S c e);rw[kU]at i;rw[<- i,<- k];rw[<- k]at j;exact ad1 (l:=(S.extract c S.size).data.toList) f j
theorem lex_wf(S:Γ)(c:Nat)(e:c<S.size):(iu S c e).1.wf:=by rw[iu];split;{simp only;split;{trivial};split;{rename_i hw;obtain⟨k,j,f⟩:=kM.mp hw;rw[cD]at f;show _∈cY;rw[f];exact j};trivial};split;{simp only;split;{trivial};rename_i i;show oK _<=_;omega};split;{simp only;split;{split<;>trivial};trivial};simp only;split;{trivial};rename_i i;exact ahj S c e i
theorem ahk(S:Γ)(e:Nat):∀t∈iw S e,t.k.wf:=by
 induction hn:S.size - e using Nat.strongRecOn generalizing e with
 |_ n j=>
  rw[iw];split
  .rename_i f;split;{intro t c;simp at c;subst c;trivial}
   rename_i i;have k:=gT S dh e;have r:=(uK S (aZ S dh e) f (by simpa using i)).1;intro t c;rcases bV.mp c with rfl|c
   {exact lex_wf S _ f};exact j (S.size - (iu S (aZ S dh e) f).2) (by omega) _ rfl t c
  intro t c;simp at c;subst c;trivial
theorem ad2(S:Γ)(e:Nat):∀t,(iw S e).getLast?=σ t->t.k.ends=true:=by induction hn:S.size - e using Nat.strongRecOn generalizing e with|_ n k=>rw[iw];split;{rename_i f;split;{intro t c;simp at c;subst c;rfl};rename_i j;have s:=gT S dh e;have u:=(uK S (aZ S dh e) f (by simpa using j)).1;intro t c;have r:=Dt S (iu S (aZ S dh e) f).2;rw[List.getLast?_cons]at c;cases hl:(iw S (iu S (aZ S dh e) f).2).getLast? with|none=>exact absurd (List.getLast?_eq_none_iff.mp hl) r|some i=>rw[hl]at c;have:i=t:=(by simpa using c);subst this;exact k (S.size - (iu S (aZ S dh e) f).2) (by omega) _ rfl i hl};intro t c;simp at c;subst c;rfl
theorem nO.begin{w:ω}{p:Nat}{S:Γ}{v:υ}(i:S.size<=300)(f:U5 w p ⟨v,0,0,0,0⟩)(e:Φ w 0 113 4 v (iw S 0).length (CZ (iw S 0)))(c:Ω v≠σ p):nO w p ⟨v,0,0,0,0⟩ (aD.of (iw S 0)) (iw S 0):=by have j:=DY S 0 (aB _);refine⟨f,e,c,?_,by omega,ahk S 0,ad2 S 0⟩;cases ht:iw S 0 with|nil=>exact absurd ht (Dt S 0)|cons t k=>exact⟨rfl,rfl⟩
