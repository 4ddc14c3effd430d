import Derived.Test.YtcoaphfimellcaaGreatDoorQAE
import Derived.Test.YtcoaphfimellcaaGreatDoorQAG
set_option maxHeartbeats 0
set_option maxRecDepth 100000
namespace Go.Proofs.YtcoaphfimellcaaGreatDoor
open Go.RowKit
open _root_.Go.Proofs.Tryz
open Option renaming some→σ,none→ν
open Go.IntKind renaming i64→κ
open Go.Ending renaming returned→τ
open Go.Obj renaming cells→ξ
open Go renaming World→ω,Value→υ
open Go.RowKit renaming Below→δ
open Go.Value renaming int→ι,string→θ,slice→ψ,pointer→π,agg→χ
variable{i e:Nat}{r:ByteArray}{s c f:υ}{u:ω}{k:TypeId}{y:List Nat}
def Ku(w:ω):Prop:=∃m,w.cell? ⟨7,0,ν⟩=σ (ι κ m)
theorem Ku.below{w w':ω}(c:Ku w)(j:δ i w w')(f:7<i):Ku w':=by obtain⟨m,e⟩:=c;exact⟨m,(j.cell (p:=⟨7,0,ν⟩) f).trans e⟩
theorem Below.drewN{a w:ω}(c:δ i a w)(n:Nat):δ i a (w.drewN n):=⟨c.os,c.tape,c.output,c.size,c.block⟩
theorem Fx(c:ByteArray)(w:ω)(hT:c.size<=300)(P:0<c.size)(Q:Ku w)(hw:7<w.heap.size):Calls prog 80 #[θ c] w λs w'=>
 s=τ (.tuple #[GD (qd c).1 0,ι κ (Ju (qd c))])/\δ w.heap.size w w':=by
 obtain⟨k,B⟩:=nm (c.extract 1 c.size);have ab:∀w,(Instr.slice 9 (θ c) (σ (ι κ 1)) ν ν).run prog w=.ok (θ k) w:=λw=>by rw[B];exact tA w 9 c underlying9 1 P
 have i:=ZL c P;rw[<- B]at i;have O:k.size<=300:=by rw[B,cZ];omega
 have C:δ w.heap.size w (w.alloc (uo 0 0 ⟨#[]⟩ 0)):=(ah _ _).alloc (ae _) _;obtain⟨mx,M⟩:=Q.below C hw;have hcut:=Tryz.strings_Cut k ⟨#[39]⟩ mx _ (by omega) M;have E:(Lib.cut k.data.toList [39]).1.length<=300:=(by unfold Lib.cut;split;{exact ag (List.length_take_le' _ _) (by rw[px];exact O)};rw[px];exact O);obtain⟨q,I⟩:=nm (Lib.cut k.data.toList [39]);have y:Calls prog 109 #[θ k,θ ⟨#[39]⟩] (w.alloc (uo 0 0 ⟨#[]⟩ 0)) λs w'=>s=τ (.tuple #[θ ⟨q.1.toArray⟩,θ ⟨q.2.1.toArray⟩,.bool q.2.2])/\∃n,w'=(w.alloc (uo 0 0 ⟨#[]⟩ 0)).drewN n:=(by rw[I];exact hcut);rw[<- I]at i E;obtain⟨x,rest,b⟩:=q;simp only at i E y;obtain⟨e,K⟩:=nm (⟨x.toArray⟩:ByteArray);have N:e.size=x.length:=by rw[K];simp[ByteArray.size]
 rw[<- K]at i y;rw[<- N]at i E;have Z:=y;have D:=ak i;have Y:=C;clear hcut y i M Q C B I K;go_in;go_wp2_with fail;refine Z.mono ?_;rintro aa X ⟨rfl,n,W⟩;have H:δ (w.alloc (uo 0 0 ⟨#[]⟩ 0)).heap.size (w.alloc (uo 0 0 ⟨#[]⟩ 0)) X:=(by rw[W];exact Below.drewN (ah _ _) n);have f:X.heap[w.heap.size]?=σ (uo 0 0 ⟨#[]⟩ 0):=(H.block w.heap.size (by simp)).trans (au w _);obtain⟨R,T,U,V⟩:=eo f;have z0:=bU f 0;have z1:=bU f 1;have z2:=bU f 2;have z3:=bU f 3;have u:=Y.trans (H.mono (by simp));have A:=ak f;clear H f W;cases b;{have r:=ak (show qd c=(.bad,0)from by rw[D.J];rfl);clear A;go_wp2_with fail;(try simp only[Exit.inBlock,Exit.then]);refine aB (by simp[results,results80,go_sem,R,T,U,V];rfl) rfl ?_;refine⟨?_,py u (ae _) _ _ _ _⟩;rw[r.J];rfl};cases mQ:tB e;{have r:=ak (show qd c=(.bad,0)from by rw[D.J,mQ];rfl);clear A;go_wp2_with(go_at_call 110;refine(qc _ _).mono ?_;rintro r' w' ⟨rfl,rfl⟩);(try simp only[Exit.inBlock,Exit.then]);refine aB (by simp[results,results80,go_sem,R,T,U,V];rfl) rfl ?_;refine⟨?_,py u (ae _) _ _ _ _⟩;rw[r.J];rfl};have r:=ak (show qd c=(.str e,e.size+2)from by rw[D.J,mQ];rfl);go_wp2_with(go_at_call 110;refine(qc _ _).mono ?_;rintro r' w' ⟨rfl,rfl⟩);refine(Kt e _ (by omega)).mono ?_;rintro aa w2 ⟨rfl,G⟩;have j:w2.heap[w.heap.size]?=σ (uo 0 0 ⟨#[]⟩ 0):=(G.block w.heap.size (by have:=aw A.J;omega)).trans A.J;obtain⟨y0,y1,y2,y3⟩:=eo j;have x0:=bU j 0;have x1:=bU j 1;have x2:=bU j 2;have x3:=bU j 3;have jl:=u.trans (G.mono u.size);clear G j;go_wp2_with fail;(try simp only[Exit.inBlock,Exit.then]);refine aB (by simp[results,results80,go_sem,y0,y1,y2,y3];rfl) rfl ?_;refine⟨?_,py jl (ae _) _ _ _ _⟩;rw[r.J];have s:(((e.size+2:Nat)):Int)=(x.length:Int)+2:=(by rw[N];omega);show _=Ending.returned (.tuple #[χ #[ι κ 4,ι κ 0,θ e,ι κ 0],ι κ (((e.size+2:Nat)):Int)]);rw[s]
def ja(T:ByteArray):Tk×Nat:=
 if h:0<T.size then(if dh T[0]then sI T else if dk T[0]then wP T else if T[0].toNat=39 then qd T else qb T h)else(.stop,0)
structure Cp (w:ω):Prop where
 spelt:Kp w
 amA:DM w
 max:Ku w
 size:12<=w.heap.size
theorem Cp.below{w w':ω}(c:Cp w)(e:δ i w w')(f:12<=i):Cp w':=
 ⟨c.spelt.below e (by omega),c.amA.below e (by omega),c.max.below e (by omega),ag c.size e.size⟩
theorem Rc(c:ByteArray)(e:0<c.size):c.toList.isEmpty=false:=by
 cases hh:c.toList.isEmpty with
 |false=>rfl
 |true=>
   exfalso;have i:c.toList=[]:=List.isEmpty_iff.mp hh;have f:=dK c [];rw[i]at f;have j:c=bs []:=jE.mp f.symm;rw[j]at e;exact absurd e (by decide)
theorem o9(c:ByteArray)(w:ω)(A:c.size<=300)(r:0<c.size)(C:Cp w)(f:Tk×Nat)(e:(dh c[0]=true/\f=sI c)\/(dh c[0]=false/\dk c[0]=true/\f=wP c)\/(dh c[0]=false/\dk c[0]=false/\c[0].toNat=39/\f=qd c)\/(dh c[0]=false/\dk c[0]=false/\¬c[0].toNat=39/\f=qb c r)):Calls prog 58 #[θ c] w λH w'=>
 H=τ (.tuple #[GD f.1 0,ι κ (Ju f)])/\δ w.heap.size w w':=by
 have y:δ w.heap.size w (w.alloc (uo 0 0 ⟨#[]⟩ 0)):=(ah _ _).alloc (ae _) _;have j:=C.below y C.size;have K:=j.size;have E:=y;have V:c.toList.isEmpty=false:=Rc c r;rcases e with⟨u,e⟩|⟨u,s,e⟩|⟨u,s,I,e⟩|⟨u,s,I,e⟩
 all_goals
  have T:iI c[0].toNat=_:=u;(try have U:kE c[0].toNat=_:=s);(try have D:((c[0].toNat:Int)==39)=true:=by rw[dC];omega);(try have D:((c[0].toNat:Int)==39)=false:=by rw[aL];omega);first
   |have i:=ak (Jw c _ A j.spelt (by omega));rw[<- e]at i
   |have i:=ak (Fw c _ A r s j.amA (by omega));rw[<- e]at i
   |have i:=ak (Fx c _ A r j.max (by omega));rw[<- e]at i
   |have i:=ak (Jv c.data.toList _ r j.spelt (by omega));rw[show qb ⟨c.data.toList.toArray⟩ r=f from e.symm]at i
  clear e;clear y j C K;go_in;go_wp2_with(first|(go_at_call 76;refine(wM _ _).mono ?_;rintro Q w' ⟨rfl,rfl⟩)|(go_at_call 78;refine(yA _ _).mono ?_;rintro Q w' ⟨rfl,rfl⟩));refine i.J.mono ?_;rintro W R ⟨rfl,B⟩;have k:R.heap[w.heap.size]?=σ (uo 0 0 ⟨#[]⟩ 0):=(B.block w.heap.size (by simp)).trans (au w _);obtain⟨M,N,O,P⟩:=eo k;have X:=bU k 0;have Y:=bU k 1;have Z:=bU k 2;have z3:=bU k 3;have G:=E.trans (B.mono (by simp));clear B k;unfold GD;go_wp2_with fail;(try simp only[Exit.inBlock,Exit.then]);refine aB (v:=.tuple #[GD f.1 0,ι κ (Ju f)]) (by simp[results,results58,go_sem,GD,M,N,O,P];try rfl) rfl ?_;exact⟨rfl,py G (ae _) _ _ _ _⟩
theorem Fy(w:ω):Calls prog 58 #[θ ⟨#[]⟩] w λc w'=>
 c=τ (.tuple #[GD .stop 0,ι κ 0])/\δ w.heap.size w w':=by go_in;go_wp2_with fail;(try simp only[Exit.inBlock,Exit.then]);refine aB (v:=.tuple #[GD .stop 0,ι κ 0]) (by simp[results,results58,go_sem,GD,aU,cM,fR];try rfl) rfl ?_;exact⟨rfl,(ah _ _).alloc (ae _) _⟩
theorem GK(c:ByteArray)(w:ω)(j:c.size<=300)(k:Cp w):Calls prog 58 #[θ c] w λs w'=>
 s=τ (.tuple #[GD (ja c).1 0,ι κ (Ju (ja c))])/\δ w.heap.size w w':=by
 by_cases e:0<c.size
 .have i:ja c=(if dh c[0]then sI c else if dk c[0]then wP c else if c[0].toNat=39 then qd c else qb c e):=jH e
  cases hl:dh c[0]with
  |true=>
    rw[i,aF hl];exact o9 c w j e k _ (.inl ⟨hl,rfl⟩)
  |false=>
    rw[i,aE (by rw[hl];decide)];by_cases f:dk c[0]=true
    . rw[aF f];exact o9 c w j e k _ (.inr (.inl ⟨hl,f,rfl⟩))
    . rw[aE f]
      have f:dk c[0]=false:=by simpa using f
      by_cases r:c[0].toNat=39
      . rw[aF r];exact o9 c w j e k _ (.inr (.inr (.inl ⟨hl,f,r,rfl⟩)))
      . rw[aE r];exact o9 c w j e k _ (.inr (.inr (.inr ⟨hl,f,r,rfl⟩)))
 have i:ja c=(.stop,0):=ox e;have u:c=⟨#[]⟩:=(by apply LD;have:c.data.toList.length=0:=(by rw[px];omega);rw[gP this]);rw[i,u];exact Fy w
theorem lD(S:ByteArray)(c:Nat):(S.extract c S.size).size=S.size - c:=by rw[cZ];omega
theorem wQ(S:ByteArray)(f:UInt8->Bool)(c e:Nat)(i:c+e<=S.size):c+aS (S.extract c S.size) f e=aS S f (c+e):=by rw[DQ S f (c+e) i,DQ (S.extract c S.size) f e (by rw[lD];omega),LC,uc];omega
theorem zN(S:ByteArray)(c e:Nat)(i:c+e<S.size):(S.extract c S.size)[e]'(by rw[lD];omega)=S[c+e]:=by have f:=ND (S.extract c S.size) e (by rw[lD];omega);rw[LC,il,ND S (c+e) i]at f;exact(bf f).symm
theorem vE(S:ByteArray)(c a b:Nat):(S.extract c S.size).extract a b=S.extract (c+a) (c+b):=by apply LD;rw[gF,jR,gK,LC,gF,jR,gK,uc];congr 1;omega
theorem GL(S:ByteArray)(c:Nat)(f:c<S.size)(k:0<(S.extract c S.size).size):eI (S.extract c S.size) 0 k=eI S c f:=by unfold eI;have i:(S.extract c S.size)[0]=S[c]:=zN S c 0 f;have j:(if e:0+1<(S.extract c S.size).size then(S.extract c S.size)[0+1].toNat else 0)=(if e:c+1<S.size then S[c+1].toNat else 0):=(by by_cases e:c+1<S.size;{rw[jH e,jH (by rw[lD];omega)];exact bn UInt8.toNat (zN S c 1 e)};rw[ox e,ox (by rw[lD];omega)]);simp only[i,j]
theorem VK(S:ByteArray)(c:Nat)(e:c<S.size):(ja (S.extract c S.size)).1=(fN S c e).1/\((fN S c e).1.ends=false->c+(ja (S.extract c S.size)).2=(fN S c e).2):=by
 have D:0<(S.extract c S.size).size:=by rw[lD];omega
 have G:(S.extract c S.size)[0]=S[c]:=zN S c 0 e;unfold ja;rw[jH D,G];unfold fN;by_cases r:dh S[c]=true;{rw[aF r,aF r];have i:=wQ S dh c 0 (by omega);have y:=fV S dh c (by omega);have f:=vE S c 0 (aS (S.extract c S.size) dh 0);rw[lQ]at i f;rw[i]at f;unfold sI;rw[f];simp only;by_cases C:8<aS S dh c - c;{rw[aF C,aF (by omega)];exact⟨rfl,λe=>absurd (show true=false from e) (by decide)⟩};rw[aE C,aE (by omega)];split;{exact⟨rfl,λ_=>i⟩};exact⟨rfl,λ_=>i⟩};rw[aE r,aE r];by_cases k:dk S[c]=true;{rw[aF k,aF k];have i:=wQ S dk c 0 (by omega);have y:=fV S dk c (by omega);have f:=vE S c 0 (aS (S.extract c S.size) dk 0);rw[lQ]at i f;rw[i]at f;unfold wP;rw[f];simp only;by_cases A:19<aS S dk c - c\/9223372036854775807<nK (S.extract c (aS S dk c)).data.toList;{rw[aF A,aF (by omega)];exact⟨rfl,λe=>absurd (show true=false from e) (by decide)⟩};rw[aE A,aE (by omega)];exact⟨rfl,λ_=>i⟩};rw[aE k,aE k];by_cases u:S[c].toNat=39;{rw[aF u,aF u];have i:=wQ S fq c 1 (by omega);have y:=fV S fq (c+1) (by omega);unfold qd;simp only;by_cases B:aS S fq (c+1)<S.size;{have E:aS (S.extract c S.size) fq 1<(S.extract c S.size).size:=(by rw[lD];omega);rw[jH B,jH E];have H:(S.extract c S.size)[aS (S.extract c S.size) fq 1]=S[aS S fq (c+1)]:=(by have:=zN S c (aS (S.extract c S.size) fq 1) (by omega);rw[this];congr 1);rw[H];by_cases j:S[aS S fq (c+1)].toNat=39/\aS S fq (c+1) - c - 1<=12;{rw[aF j,aF ⟨j.1,by omega⟩];have f:=vE S c 1 (aS (S.extract c S.size) fq 1);rw[i]at f;rw[f];exact⟨rfl,λ_=>by simp only;omega⟩};rw[aE j,aE (λI=>j ⟨I.1,by omega⟩)];exact⟨rfl,λe=>absurd (show true=false from e) (by decide)⟩};rw[ox B,ox (by rw[lD];omega)];exact⟨rfl,λe=>absurd (show true=false from e) (by decide)⟩};rw[aE u,aE u];unfold qb;rw[GL S c e D];simp only;by_cases s:eI S c e=0;{rw[aF s,aF s];exact⟨rfl,λe=>absurd (show true=false from e) (by decide)⟩};rw[aE s,aE s];have y:=Bh S c e;have f:=vE S c 0 (eI S c e);rw[lQ]at f;rw[f];exact⟨rfl,λ_=>rfl⟩
def Bs(l:List Tok):List υ:=l.flatMap λt=>Ut t.k t.pl
theorem VL(l:List Tok)(t:Tok):Bs (l++[t])=Bs l++Ut t.k t.pl:=by simp[Bs]
theorem amB(f:Tk)(i:Nat):∀e∈Ut f i,e.oneCell'=true:=by intro e c;simp[Ut]at c;rcases c with rfl|rfl|rfl|rfl<;>rfl
theorem Tryz.VM:(prog.info? 106).map (λc=>(c.zero,c.size,c.bytes))=σ (σ (χ #[ι κ 0,ι κ 0,θ ByteArray.empty,ι κ 0]),4,40):=by kernel_rfl
theorem tC{c:Nat->Prop}{w w':ω}{size:Nat}{v:υ}{n:Nat}{xs:List υ}(e:w.ownsRow i k size v n xs)(y:aX c w w')(r:∀g,v.ownBlock=σ g->c g):w'.ownsRow i k size v n xs:=by
 refine⟨e.1,?_⟩;rcases e.2 with j|⟨g,cap,cur,f,u,s,A⟩
 {exact .inl j};exact .inr ⟨g,cap,cur,f,u,(y.block g (r g (by rw[f];rfl))).trans s,A⟩
theorem NJ{w:ω}{size:Nat}{v:υ}{n:Nat}{xs:List υ}(f:w.ownsRow i k size v n xs):∃a e,v=ψ a n e:=by rcases f.2 with⟨c,j⟩|⟨s,r,_,c,_⟩;{exact⟨_,_,by rw[c,j]⟩};exact⟨_,_,c⟩
theorem VN{c:Tk}(e:c.ends=true):aU c=0\/aU c=1:=by cases c<;>first|exact .inl rfl|exact .inr rfl|(simp[Tk.ends]at e)
theorem VO{c:Tk}(e:c.ends=false):2<=aU c:=by cases c<;>first|(simp[Tk.ends]at e;done)|(simp only[aU];omega)
theorem VP(S:ByteArray)(c:Nat)(y:c<=S.size):∃j,j=(ja (S.extract (aS S cz c) S.size)).1/\((j.ends=true/\fM S c=[⟨j,aS S cz c⟩])\/(j.ends=false/\fM S c=⟨j,aS S cz c⟩::fM S (aS S cz c+(ja (S.extract (aS S cz c) S.size)).2)/\c<aS S cz c+(ja (S.extract (aS S cz c) S.size)).2/\aS S cz c+(ja (S.extract (aS S cz c) S.size)).2<=S.size)):=by refine⟨_,rfl,?_⟩;have B:=fl S cz c;have C:=fV S cz c y;by_cases e:aS S cz c<S.size;{obtain⟨s,k⟩:=VK S (aS S cz c) e;rw[s];by_cases i:(fN S (aS S cz c) e).1.ends=true;{refine .inl ⟨i,?_⟩;rw[fM];simp only[dif_pos e,dif_pos i];rw[Bq S _ e i]};have f:(fN S (aS S cz c) e).1.ends=false:=(by simpa using i);have u:=rF S _ e f;refine .inr ⟨f,?_,by rw[k f];omega,by rw[k f];exact u.2⟩;rw[k f,fM];simp only[dif_pos e,dif_neg i]};have A:aS S cz c=S.size:=(by omega);have r:ja (S.extract (aS S cz c) S.size)=(.stop,0):=ox (by rw[lD];omega);rw[r];refine .inl ⟨rfl,?_⟩;rw[fM];simp only[dif_neg e];rw[A]
theorem Re(S:ByteArray)(w:ω)(hS:S.size<=300)(r:Cp w):Calls prog 43 #[θ S] w λs w'=>
 ∃v,s=τ v/\w'.ownsRow w.heap.size 106 4 v (fM S 0).length (Bs (fM S 0))/\δ w.heap.size w w':=by
 obtain⟨i0,hi,lC,lI,kQ⟩:=iC Tryz.VM;have HG:=ak r;clear r;go_in;go_wp2_with fail;go_loopw[3,4] (λv T wr=>∃(i:Nat) (l:List Tok),T=ι κ i/\i<=S.size/\l.length<=i/\Hid (wr.ownsRow w.heap.size 106 4 v l.length (Bs l))/\Hid (l++fM S i=fM S 0)/\Hid (δ w.heap.size w wr)) (λ_ T _=>S.size - (intOf T).toNat);case atStart=>exact⟨0,[],rfl,aK _,ae _,ak (gR _ _ _ _),ak rfl,ak (ah _ _)⟩
 case round=>
  obtain⟨i,l,rfl,y,hl,O,HT,N⟩:=hrel;obtain⟨B,C⟩:=nm (S.extract i S.size);have Cq:∀w,(Instr.slice 9 (θ S) (σ (ι κ i)) ν ν).run prog w=.ok (θ B) w:=λw=>by rw[C];exact tA w 9 S underlying9 i y
  have ao:B.size<=300:=by rw[C,lD];omega
  obtain⟨e,E⟩:=nm (aS S cz i);have VE:=fl S cz i;have aa:=fV S cz i y;have Z:=wQ S cz i 0 y;rw[lQ,<- C,<- E]at Z;rw[<- E]at VE aa;obtain⟨j,D⟩:=nm (S.extract e S.size);have Au:∀w,(Instr.slice 9 (θ S) (σ (ι κ e)) ν ν).run prog w=.ok (θ j) w:=λw=>by rw[D];exact tA w 9 S underlying9 e aa
  have ZM:j.size<=300:=by rw[D,lD];omega
  obtain⟨c,G,P⟩:=VP S i y;rw[<- E,<- D]at G P;obtain⟨b,hb⟩:=nm (aS B cz 0);have Y:=Q7 B wr ao;rw[<- hb]at Y Z;have ar:(i:Int)+b=e:=by omega
  have ab:=ak Y;have V:=GK j wr ZM (HG.J.below N.J HG.J.size);rw[<- G]at V;have ac:=ak V;have HK:=ak G;have tD:=ak P;clear Y V G P E hb C D Z;go_wp2_with(go_at_call 57;refine ab.J.mono ?_;rintro r' w' ⟨rfl,rfl⟩);refine ac.J.mono ?_;rintro av f ⟨rfl,U⟩;have gq:=ak ((N.J.trans (U.mono N.J.size)));have Q:=ak (tC O.J (aX.Cg U) (λg r=>(O.J.lt g r).2));obtain⟨va,vc,hv⟩:=NJ O.J;subst hv;have ap:w.heap.size<=f.heap.size:=gq.J.size;have an:∀g,(Value.slice va l.length vc).ownBlock=σ g->g<f.heap.size:=λg r=>(Q.J.lt g r).2;have ad:=ak ((Q.J.alloc (uo (aU c) e (cM c) (fR c))).alloc (uo (aU c) e (cM c) (fR c)));have wR:((f.alloc (uo (aU c) e (cM c) (fR c))).alloc (uo (aU c) e (cM c) (fR c))).heap[f.heap.size+1]?=σ (uo (aU c) e (cM c) (fR c)):=(by have:=au (f.alloc (uo (aU c) e (cM c) (fR c))) (uo (aU c) e (cM c) (fR c));rwa[show(f.alloc (uo (aU c) e (cM c) (fR c))).heap.size=f.heap.size+1 from by simp]at this);have VQ:=ak (World.news_of_block wR);have hold:((f.alloc (uo (aU c) e (cM c) (fR c))).alloc (uo (aU c) e (cM c) (fR c))).heap[f.heap.size]?=σ (uo (aU c) e (cM c) (fR c)):=(ct _ _ _ (by simp)).trans (au f _);have al:=ak hold;clear U wR hold;unfold GD;go_wp2_with(at_builtin;refine cJ _ rfl _ _ 99 rfl w.heap.size 106 i0 _ 4 40 underlying99 hi lC lI kQ rfl (by decide) _ _ _ rfl ad.J ⟨f.heap.size+1,0,ν⟩ 1 1 (Ut c e) rfl rfl VQ.J (amB c e) (by decide) ?c3 ?c4 ?c5 ?_);case c3=>unfold maxLen;omega
  case c4=>omega
  case c5=>simp;omega
  intro g cap M bS k dT;have x8:M.heap[f.heap.size]?=σ (uo (aU c) e (cM c) (fR c)):=(k.block f.heap.size (by simp;omega) (λs=>by have:=an _ s.symm;omega)).trans al.J;obtain⟨u0,-,-,-⟩:=eo x8;have R:=ak (show M.ownsRow w.heap.size 106 4 (ψ (σ ⟨g,0,ν⟩) (l.length+1) cap) (l++[(⟨c,e⟩:Tok)]).length (Bs (l++[(⟨c,e⟩:Tok)]))from by
   rw[az,VL];exact bS)
  have yk:=ak (show δ w.heap.size w M from by
   have oW:δ w.heap.size f ((f.alloc (uo (aU c) e (cM c) (fR c))).alloc (uo (aU c) e (cM c) (fR c))):=((ah _ _).alloc ap _).alloc (by simp;omega) _;have nB:δ w.heap.size ((f.alloc (uo (aU c) e (cM c) (fR c))).alloc (uo (aU c) e (cM c) (fR c))) M:=⟨k.os,k.tape,k.output,k.size,λq I=>k.block q (by simp;omega) (λs=>by have:=(Q.J.lt q s.symm).1;omega)⟩;exact(gq.J.trans oW).trans nB)
  clear bS k dT x8;rcases tD.J with⟨K,u⟩|⟨K,u,cL,W⟩
  .have DJ:l++[⟨c,e⟩]=fM S 0:=(by rw[<- HT.J,u]);have HF:=ak DJ;have A:aU c=0\/aU c=1:=VN K;clear DJ u;rcases A with A|A
   {have e0:((aU c:Int)==0)=true:=(by rw[dC];omega);go_wp2_with fail;go_ret;refine⟨_,rfl,?_,yk.J⟩;rw[<- HF.J];exact R.J};have e0:((aU c:Int)==0)=false:=(by rw[aL];omega);have e1:((aU c:Int)==1)=true:=(by rw[dC];omega);go_wp2_with fail;go_ret;refine⟨_,rfl,?_,yk.J⟩;rw[<- HF.J];exact R.J
  have A:2<=aU c:=VO K;have e0:((aU c:Int)==0)=false:=(by rw[aL];omega);have e1:((aU c:Int)==1)=false:=(by rw[aL];omega);have X:Ju (ja j)=(ja j).2:=(by unfold Ju;rw[<- HK.J,aE (by rw[K];decide)]);have am:=ak (show(l++[⟨c,e⟩])++fM S (e+(ja j).2)=fM S 0 from by rw[<- HT.J,u,cj];rfl);obtain⟨n,H⟩:=nm (Ju (ja j));rw[<- X,<- H]at cL W;obtain⟨q,I⟩:=nm (e+n);have aq:(e:Int)+n=q:=(by omega);rw[<- I]at cL W;have HQ:=ak I;have HN:=ak (H.trans X);rw[<- H];clear X u H I;go_wp2_with fail;go_roundw;(case rel=>refine⟨q,l++[⟨c,e⟩],by first|rfl|go_num,W,by simp;omega,R,?_,yk⟩;have:=am.J;rw[<- HN.J,<- HQ.J]at this;exact ak this);case measure=>simp[intOf];omega
structure pV where
 v:υ
 pos:Nat
 depth:Nat
 e:Nat
 b:Nat
def qe(x:pV):Array υ:=#[x.v,ι κ x.pos,ι κ x.depth,ι κ x.e,ι κ x.b]
def Rf(w:ω)(p:Nat)(x:pV):Prop:=w.heap[p]?=σ (ξ (qe x) 102 (0,0))
theorem Rf.cell{w:ω}{p:Nat}{x:pV}(c:Rf w p x)(e:Nat):w.cell? (Ad p e)=(qe x)[e]?:=by unfold Rf at c;simp[World.cell?,c]
theorem Rf.fz{w:ω}{p:Nat}{x:pV}(c:Rf w p x)(e:Nat):w.frozen? (Ad p e)=false:=by unfold Rf at c;simp[World.frozen?,c]
theorem Rf.lt{w:ω}{p:Nat}{x:pV}(c:Rf w p x):p<w.heap.size:=aw c
theorem Rf.set{w:ω}{p:Nat}{x y:pV}(e:Rf w p x)(c:Nat)(v:υ)(f:(qe x).setIfInBounds c v=qe y):Rf (w.setCell (Ad p c) v) p y:=by unfold Rf;rw[<- f];exact aN w p c _ _ v e
def sJ(x:pV)(l:List Tok):Mode->Prop
 |.live t ts=>x.e=0/\l.drop x.pos=t::ts
 |.dead e b=>x.e=e/\x.b=b/\e≠0/\l=[⟨.bad,0⟩]/\x.pos=0
def Tk.wf:Tk->Prop
 |.sign s=>s∈fm
 |.word s=>s∈cC
 |.num n=>n<=9223372036854775807
 |_=>True
structure mN (w:ω)(p:Nat)(x:pV)(m:Mode)(l:List Tok):Prop where
 wE:Rf w p x
 own:w.ownsRow 0 106 4 x.v l.length (Bs l)
 apart:x.v.ownBlock≠σ p
 mode:sJ x l m
 few:l.length<=400
 wf:∀t∈l,t.k.wf
 fin:∀t,l.getLast?=σ t->t.k.ends=true
theorem ZO(l:List Tok)(c e:Nat)(j:e<4):(Bs l)[c*4+e]?=(l[c]?).bind λt=>(Ut t.k t.pl)[e]?:=by
 induction l generalizing c with
 |nil=>simp[Bs]
 |cons x l i=>
   have f:Bs (x::l)=Ut x.k x.pl++Bs l:=by simp[Bs]
   rw[f]
   cases c with
   |zero=>rw[cw (by simp[Ut];omega)];simp
   |succ c=>
     rw[bp (by simp[Ut];omega)];have:(c+1)*4+e - (Ut x.k x.pl).length=c*4+e:=by simp[Ut];omega
     rw[this,i];simp
theorem sJ.cur{x:pV}{l:List Tok}{m:Mode}(e:sJ x l m):l[x.pos]?=σ ⟨m.tk,m.place⟩:=by
 cases m with
 |dead c b=>obtain⟨-,-,-,rfl,f⟩:=e;rw[f];rfl
 |live t i=>
   have c:l[x.pos]?=(l.drop x.pos)[0]?:=by rw[il];rfl
   rw[c,e.2];rfl
theorem mN.slice{w:ω}{p:Nat}{x:pV}{m:Mode}{l:List Tok}(e:mN w p x m l):∃g cap,x.v=ψ (σ (Ad g 0)) l.length cap/\x.pos<l.length/\w.cell? (Ad g (x.pos*4))=σ (ι κ (aU m.tk))/\w.cell? (Ad g (x.pos*4+1))=σ (ι κ m.place)/\w.cell? (Ad g (x.pos*4+2))=σ (θ (cM m.tk))/\w.cell? (Ad g (x.pos*4+3))=σ (ι κ (fR m.tk))/\g<w.heap.size/\g≠p:=by
 have j:=e.mode.cur;have r:x.pos<l.length:=(aj.mp j).1;rcases e.own.2 with⟨_,y⟩|⟨g,cap,_,k,_⟩
 {omega}
 have f:=e.own;have i:=e.apart;rw[k]at f i;have get:∀c (_:c<4),w.cell? (Ad g (x.pos*4+c))=(Ut m.tk m.place)[c]?:=λc u=>by
  rw[f.cellAt (x.pos*4+c) (by omega),ZO l x.pos c u,j];rfl
 exact⟨g,cap,k,r,get 0 (by decide),get 1 (by decide),get 2 (by decide),get 3 (by decide),(f.lt g rfl).2,λs=>i (by simp[Value.ownBlock,s])⟩
theorem LI{w:ω}{p:Nat}{x:pV}{m:Mode}{l:List Tok}(c:mN w p x m l):Calls prog 45 #[π (σ (Ad p 0))] w λf w'=>
 f=τ (GD m.tk m.place)/\δ w.heap.size w w':=by
 obtain⟨g,cap,e,u,j,k,r,s,y,i⟩:=c.slice;have B:w.cell? (Ad p 0)=σ (ψ (σ (Ad g 0)) l.length cap):=(c.wE.cell 0).trans (by rw[<- e];rfl);have C:w.cell? (Ad p 1)=σ (ι κ x.pos):=c.wE.cell 1;have A:(x.pos:Int)<l.length:=by omega
 have D:=c.wE.lt;have E:=c.few;clear c;go_in;go_wp2_with fail;go_region;all_goals((try go_wp2_with fail);(try simp only[Exit.inBlock,Exit.then]);refine aB (v:=GD m.tk m.place) (by simp[results,results45,go_sem,GD];try rfl) rfl ?_;exact⟨rfl,aH ((ah _ _).alloc (ae _) _)⟩)
theorem aX.pK{p:Nat}{w w':ω}(c:δ w.heap.size w w'):aX (Other p w) w w':=⟨c.os,c.tape,c.output,c.size,λf e=>c.block f e.2⟩
theorem aX.EM{p:Nat}{a b:ω}(c:aX (Other p a) a b)(f:aX (Other p b) b u):aX (Other p a) a u:=
 c.trans (f.mono (λ_ e=>⟨e.1,ai e.2 c.size⟩))
theorem mN.below{w w':ω}{p:Nat}{x:pV}{m:Mode}{l:List Tok}(c:mN w p x m l)(e:δ w.heap.size w w'):mN w' p x m l:=
 ⟨(e.block p c.wE.lt).trans c.wE,tC c.own (aX.Cg e) (λg f=>(c.own.lt g f).2),c.apart,c.mode,c.few,c.wf,c.fin⟩
theorem mN.put{w:ω}{p:Nat}{x y:pV}{m m':Mode}{l:List Tok}(c:mN w p x m l)(i:Nat)(v:υ)(j:(qe x).setIfInBounds i v=qe y)(e:y.v=x.v)(k:sJ y l m'):mN (w.setCell (Ad p i) v) p y m' l:=by
 refine⟨c.wE.set i v j,?_,by rw[e];exact c.apart,k,c.few,c.wf,c.fin⟩;rw[e];refine c.own.kept (grownBy_setCell w (Ad p i) v) ?_
 cases hb:x.v.ownBlock with
 |none=>exact .inl rfl
 |some g=>exact .inr (by simp;intro f;exact c.apart (by rw[hb,f]))
theorem VR{x:pV}{l:List Tok}{m:Mode}(e:sJ x l m)(c:x.pos+1<l.length):sJ { x with pos:=x.pos+1 } l m.next:=by
 cases m with
 |dead s b=>obtain⟨-,-,-,rfl,r⟩:=e;rw[r]at c;exact absurd c (by decide)
 |live t i=>
   obtain⟨j,k⟩:=e;have f:l.drop (x.pos+1)=i:=by
    rw[<- uc,k];rfl
   cases i with
   |nil=>
     have:=bn List.length f;rw[bW]at this;simp at this;omega
   |cons u y=>exact⟨j,f⟩
theorem VT{x:pV}{l:List Tok}{m:Mode}(c:sJ x l m)(i:¬x.pos+1<l.length):m.next=m:=by
 cases m with
 |dead j b=>rfl
 |live t f=>
   obtain⟨k,e⟩:=c
   cases f with
   |nil=>rfl
   |cons r s=>
     have:=bn List.length e;rw[bW]at this;simp at this;omega
def ZP(w:ω)(x x':pV):Prop:=∀g,x'.v.ownBlock=σ g->x.v.ownBlock=σ g\/w.heap.size<=g
structure EN (w w':ω)(p:Nat)(x:pV)(m':Mode):Prop where
 ex:∃x' l',mN w' p x' m' l'/\x'.depth=x.depth/\ZP w x x'
 keeps:aX (Other p w) w w'
theorem mN.drewN{w:ω}{p:Nat}{x:pV}{m:Mode}{l:List Tok}(c:mN w p x m l)(n:Nat):mN (w.drewN n) p x m l:=⟨c.wE,c.own,c.apart,c.mode,c.few,c.wf,c.fin⟩
theorem mN.other{w:ω}{p:Nat}{x:pV}{m:Mode}{l:List Tok}(c:mN w p x m l)(f:i≠p)(j:x.v.ownBlock≠σ i)(e:Nat)(v:υ):mN (w.setCell (Ad i e) v) p x m l:=
 ⟨(ay _ _ _ _ (Ne.symm f)).trans c.wE,c.own.kept (grownBy_setCell w (Ad i e) v) (.inr j),c.apart,c.mode,c.few,c.wf,c.fin⟩
theorem EN.amC{w:ω}{p:Nat}{x c:pV}{m':Mode}{l:List Tok}(r:mN u p c m' l)(s:c.depth=x.depth)(A:ZP w x c)(B:aX (Other p w) w u)(C:p<w.heap.size)(y:∀g,c.v.ownBlock=σ g->g≠w.heap.size)(a b j d:υ) :
 EN w ((((u.setCell (Ad w.heap.size 0) a).setCell (Ad w.heap.size 1) b).setCell (Ad w.heap.size 2) j).setCell (Ad w.heap.size 3) d) p x m':=by
 have e:w.heap.size≠p:=by omega
 have f:c.v.ownBlock≠σ w.heap.size:=λk=>y _ k rfl;have i:¬Other p w w.heap.size:=λk=>bO _ k.2;exact⟨⟨c,l,(((r.other e f 0 a).other e f 1 b).other e f 2 j).other e f 3 d,s,A⟩,(((B.setCell (p:=(Ad w.heap.size 0)) i a).setCell (p:=(Ad w.heap.size 1)) i b).setCell (p:=(Ad w.heap.size 2)) i j).setCell (p:=(Ad w.heap.size 3)) i d⟩
theorem aes{w:ω}{p:Nat}{x:pV}{m:Mode}{l:List Tok}(c:mN w p x m l):Calls prog 59 #[π (σ (Ad p 0))] w λQ w'=>
 Q=τ (GD m.tk m.place)/\EN w w' p x m.next:=by
 have y:δ w.heap.size w (w.alloc (uo 0 0 ⟨#[]⟩ 0)):=(ah _ _).alloc (ae _) _;have C:=c.below y;have T:=y;have E:=c.wE.lt;have D:=ak (λg (V:x.v.ownBlock=σ g)=>Nat.ne_of_lt (c.own.lt g V).2);clear c y;go_in;go_wp2_with fail;refine(LI C).mono ?_;rintro Q e ⟨rfl,i⟩;obtain⟨u,r⟩:=nm (e.alloc (uo (aU m.tk) m.place (cM m.tk) (fR m.tk)));have A:δ w.heap.size w e:=T.trans (i.mono (by simp));have s:=oJ r;have f:=(C.below i).below s;have H:u.heap[e.heap.size]?=σ (uo (aU m.tk) m.place (cM m.tk) (fR m.tk)):=by rw[r];exact au e _
 have j:u.heap[w.heap.size]?=σ (uo 0 0 ⟨#[]⟩ 0):=(s.block w.heap.size (by have:=i.size;simp at this;omega)).trans ((i.block w.heap.size (by simp)).trans (au w _));obtain⟨t0,t1,t2,t3⟩:=eo H;obtain⟨M,N,O,P⟩:=eo j;have z0:=bU j 0;have z1:=bU j 1;have z2:=bU j 2;have z3:=bU j 3;obtain⟨g,cap,G,Z,-⟩:=f.slice;have p0:u.cell? (Ad p 0)=σ (ψ (σ (Ad g 0)) l.length cap):=(f.wE.cell 0).trans (by rw[<- G];rfl);have p1:u.cell? (Ad p 1)=σ (ι κ x.pos):=f.wE.cell 1;have f1:=f.wE.fz 1;have wL:=f.few;have aa:¬(p=w.heap.size):=by omega
 have nQ:w.heap.size<e.heap.size:=by have:=i.size;simp at this;omega
 have fE:¬(e.heap.size=w.heap.size):=by omega
 have X:¬(e.heap.size=p):=by omega
 have Y:¬(p=e.heap.size):=by omega
 have I:=A.trans (s.mono A.size);have k:=f;have R:=ak r;clear i A s f H j r G;unfold GD;by_cases K:x.pos+1<l.length;{have W:(x.pos:Int)<(l.length:Int) - 1:=(by omega);go_wp2_with fail;rw[<- R.J];go_quiet(fail);go_wp2_with fail;(try simp only[Exit.inBlock,Exit.then]);refine aB (v:=GD m.tk m.place) (by simp[results,results59,go_sem,GD,M,N,O,P];try rfl) rfl ?_;have B:=(aX.drewN (aX.pK (p:=p) I) nq).own 1 (ι κ ((x.pos:Int)+1));exact⟨rfl,EN.amC (x:=x) ((k.drewN nq).put (y:={ x with pos:=x.pos+1 }) 1 (ι κ ((x.pos:Int)+1)) (by simp[qe]) rfl (VR k.mode K)) rfl (λ_ c=>.inl c) B E D.J _ _ _ _⟩};have W:¬(x.pos:Int)<(l.length:Int) - 1:=(by omega);have U:=ak (VT k.mode K);go_wp2_with fail;rw[<- R.J];go_quiet(fail);go_wp2_with fail;(try simp only[Exit.inBlock,Exit.then]);refine aB (v:=GD m.tk m.place) (by simp[results,results59,go_sem,GD,M,N,O,P];try rfl) rfl ?_;have B:=aX.drewN (aX.pK (p:=p) I) nq;rw[U.J];exact⟨rfl,EN.amC (x:=x) (k.drewN nq) rfl (λ_ c=>.inl c) B E D.J _ _ _ _⟩
theorem ry(c b:Nat)(w:ω):Calls prog 27 #[χ #[ι κ c,ι κ b]] w λi w'=>i=τ (.bool (decide (c≠0)))/\δ w.heap.size w w':=by by_cases e:c=0;{have f:((c:Int) != 0)=false:=(by rw[e];rfl);go_in;go_wp2_with fail;go_ret;refine⟨by simp[e],(ah _ _).alloc (ae _) _⟩};have f:((c:Int) != 0)=true:=(by rw[jA];omega);go_in;go_wp2_with fail;go_ret;refine⟨by simp[e],(ah _ _).alloc (ae _) _⟩
theorem mN.lost{w wp:ω}{p:Nat}{x y:pV}(e:Rf wp p y)(s:y.e≠0)(k:y.pos=0)(f:y.v=ψ (σ (Ad wp.heap.size 0)) 1 1)(r:y.depth=x.depth)(i:aX (Other p w) w wp) :
 EN w (wp.alloc (uo 1 0 ⟨#[]⟩ 0)) p x (.dead y.e y.b):=by refine⟨⟨y,[⟨.bad,0⟩],⟨(ct _ _ _ e.lt).trans e,?_,?_,⟨rfl,rfl,s,rfl,k⟩,by simp,λt c=>?_,λt c=>?_⟩,r,λg j=>?_⟩,i.alloc (λq u=>ai u.2 i.size) _⟩;{rw[f];exact⟨by simp[Bs,Ut],.inr ⟨wp.heap.size,1,#[ι κ 1,ι κ 0,θ ⟨#[]⟩,ι κ 0],rfl,aK _,au wp _,by simp,by decide,by simp,by simp[Bs,Ut,aU,cM,fR]⟩⟩};{rw[f];have:=e.lt;simp[Value.ownBlock];omega};{rw[bj]at c;subst c;trivial};{cases c;rfl};rw[f]at j;simp[Value.ownBlock]at j;have:=i.size;exact .inr (by omega)
theorem VW{x:pV}{l:List Tok}{m:Mode}(e:sJ x l m)(j:x.e=0)(c b:Nat):m.fail c b=.dead c b:=by
 cases m with
 |dead r k=>obtain⟨f,-,i,-⟩:=e;exact absurd (f.symm.trans j) i
 |live t s=>rfl
theorem VX{x:pV}{l:List Tok}{m:Mode}(c:sJ x l m)(j:¬x.e=0)(e b:Nat):m.fail e b=.dead x.e x.b:=by
 cases m with
 |dead r k=>obtain⟨f,i,-⟩:=c;rw[f,i];rfl
 |live t s=>exact absurd c.1 j
theorem aeu{w:ω}{p:Nat}{x:pV}{m:Mode}{l:List Tok}(A:mN w p x m l)(f b:Nat)(P:f≠0):Calls prog 66 #[π (σ (Ad p 0)),χ #[ι κ f,ι κ b]] w λE w'=>
 E=τ (.tuple #[])/\EN w w' p x (m.fail f b):=by have Q:=A.wE.lt;have s:δ w.heap.size w (w.alloc (gY f b)):=(ah _ _).alloc (ae _) _;have k:=A.below s;have W:(w.alloc (gY f b)).cell? (Ad p 3)=σ (ι κ x.e):=k.wE.cell 3;have X:(w.alloc (gY f b)).cell? (Ad p 4)=σ (ι κ x.b):=k.wE.cell 4;have H:=k;have G:=s;clear A s k;by_cases r:x.e=0;{have j:=ak r;clear r;go_in;go_wp2_with fail;refine(ry x.e x.b _).mono ?_;rintro E e ⟨rfl,i⟩;have c:=H.below i;have u:=c;have B:decide (x.e≠0)=false:=(by simp[j.J]);have K:e.cell? (Ad p 0)=σ x.v:=c.wE.cell 0;have M:e.cell? (Ad p 1)=σ (ι κ x.pos):=c.wE.cell 1;have R:e.cell? (Ad p 3)=σ (ι κ x.e):=c.wE.cell 3;have T:e.cell? (Ad p 4)=σ (ι κ x.b):=c.wE.cell 4;have N:=c.wE.fz 0;have O:=c.wE.fz 1;have U:=c.wE.fz 3;have V:=c.wE.fz 4;have C:e.heap[w.heap.size]?=σ (gY f b):=(i.block w.heap.size (by simp)).trans (au w _);have Y:e.cell? (Ad w.heap.size 0)=σ (ι κ f):=(by simp[World.cell?,C]);have Z:e.cell? (Ad w.heap.size 1)=σ (ι κ b):=(by simp[World.cell?,C]);have y:=G.trans (i.mono (by simp));have I:=c.wE.lt;rw[B];clear i c C;go_wp2_with fail;go_end0;refine⟨rfl,?_⟩;have c:=u;rw[VW c.mode j.J];have D:=((((aX.pK (p:=p) y).own 3 (ι κ f)).own 4 (ι κ b)).own 0 (ψ (σ (Ad e.heap.size 0)) 1 1)).own 1 (ι κ 0);exact mN.lost (y:=⟨ψ (σ (Ad e.heap.size 0)) 1 1,0,x.depth,f,b⟩) ((((c.wE.set (y:=⟨x.v,x.pos,x.depth,f,x.b⟩) 3 _ (by simp[qe])).set (y:=⟨x.v,x.pos,x.depth,f,b⟩) 4 _ (by simp[qe])).set (y:=⟨ψ (σ (Ad e.heap.size 0)) 1 1,x.pos,x.depth,f,b⟩) 0 _ (by simp[qe])).set 1 _ (by simp[qe])) P rfl (by simp[World.setCell]) rfl D};have j:=ak r;clear r;go_in;go_wp2_with fail;refine(ry x.e x.b _).mono ?_;rintro E e ⟨rfl,i⟩;have c:=H.below i;have u:=c;have B:decide (x.e≠0)=true:=(by simp[j.J]);have K:e.cell? (Ad p 0)=σ x.v:=c.wE.cell 0;have M:e.cell? (Ad p 1)=σ (ι κ x.pos):=c.wE.cell 1;have N:=c.wE.fz 0;have O:=c.wE.fz 1;have y:=G.trans (i.mono (by simp));have I:=c.wE.lt;rw[B];clear i c;go_wp2_with fail;go_end0;refine⟨rfl,?_⟩;have c:=u;rw[VX c.mode j.J];have D:=((aX.pK (p:=p) y).own 0 (ψ (σ (Ad e.heap.size 0)) 1 1)).own 1 (ι κ 0);exact mN.lost (y:=⟨ψ (σ (Ad e.heap.size 0)) 1 1,0,x.depth,x.e,x.b⟩) ((c.wE.set (y:=⟨ψ (σ (Ad e.heap.size 0)) 1 1,x.pos,x.depth,x.e,x.b⟩) 0 _ (by simp[qe])).set 1 _ (by simp[qe])) j.J rfl (by simp[World.setCell]) rfl D
def opsL:List Nat:=[0,0,0,0,0,6,8,10,5,7,9,0,0,0,0,0,0,1,2,3,4,0,0,0,0,0,0,0,0,0,0,0,0,0,0,11,12]
def NL(w:ω):Prop:=∀i n,opsL[i]?=σ n->w.cell? (Ad 8 i)=σ (ι κ (n:Nat))
abbrev It:=(Nat×Array Value×TypeId) ⊕ (Value×TypeId×Nat×Nat×List Value)
def itB:It->Option Nat
 |.inl a=>σ a.1
 |.inr a=>a.1.ownBlock
def GN(lo:Nat)(w:ω):It->Prop
 |.inl a=>w.heap[a.1]?=σ (ξ a.2.1 a.2.2 (0,0))/\lo<=a.1
 |.inr a=>w.ownsRow lo a.2.1 a.2.2.1 a.1 a.2.2.2.1 a.2.2.2.2
structure Pr (o:ω×Option Nat)(w:ω)(p d:Nat)(m:Mode)(L:List It):Prop where
 ex:∃x l,mN w p x m l/\x.depth=d/\∀g,x.v.ownBlock=σ g->(o.2=σ g\/o.1.heap.size<=g)/\∀a∈L,itB a≠σ g
 fr:aX (Other p o.1) o.1 w
 ok:∀a∈L,GN o.1.heap.size w a
 ap:L.Pairwise λa b=>∀g,itB a=σ g->itB b≠σ g
 lo:12<=p/\p<o.1.heap.size
 ops:NL o.1
section
variable {o:ω×Option Nat} {w w':ω} {p d d' b lo lo' g cap n z:Nat} {m m':Mode} {L:List It} {a:It} {cs:Array υ} {t:TypeId} {v:υ} {xs ys:List υ} {x x':pV} {l l':List Tok}
theorem Cr(c:GN lo w a)(e:∀g,itB a=σ g->w'.heap[g]?=w.heap[g]?):GN lo w' a:=by
 cases a with
 |inl a=>exact⟨(e _ rfl).trans c.1,c.2⟩
 |inr a=>
   refine⟨c.1,?_⟩;rcases c.2 with i|⟨g,cap,cur,f,k,j,r⟩
   . exact .inl i
   . exact .inr ⟨g,cap,cur,f,k,(e g (by show a.1.ownBlock=_;rw[f];rfl)).trans j,r⟩
theorem AV(c:GN lo w a)(e:itB a=σ g):g<w.heap.size/\lo<=g:=by
 cases a with
 |inl a=>cases e;exact⟨(cW.mp c.1).1,c.2⟩
 |inr a=>exact(World.ownsRow.lt c g e).symm
theorem ZQ(c:GN lo w a)(e:lo'<=lo):GN lo' w a:=by
 cases a with
 |inl a=>exact⟨c.1,ag e c.2⟩
 |inr a=>exact eB c e
theorem Pr.go(S:Pr o w p d m L):∃x l,mN w p x m l/\x.depth=d/\∀{w' m' d' x' l'},mN w' p x' m' l'->x'.depth=d'->ZP w x x'->aX (Other p w) w w'->Pr o w' p d' m' L:=by obtain⟨x,l,k,s,y⟩:=S.ex;refine⟨x,l,k,s,λ{w' m' d' x' l'} r u i f=>?_⟩;have B:=S.lo;have A:=S.fr.size;refine⟨⟨x',l',r,u,λg e=>?_⟩,S.fr.EM f,λa c=>Cr (S.ok a c) λg e=>f.block g ?_,S.ap,S.lo,S.ops⟩;{rcases i g e with q|q;{exact y g q};exact⟨.inr (by omega),λa c j=>by have:=(AV (S.ok a c) j).1;omega⟩};have:=AV (S.ok a c) e;exact⟨by omega,this.1⟩
theorem Pr.st(S:Pr o w p d m L):∃x l,mN w p x m l/\∀{w' m'},EN w w' p x m'->Pr o w' p d m' L:=by obtain⟨x,l,i,k,f⟩:=S.go;refine⟨x,l,i,λ{w' m'} c=>?_⟩;obtain⟨x',l',j,e,r⟩:=c.ex;exact f j (e.trans k) r c.keeps
theorem Pr.below(S:Pr o w p d m L)(e:δ w.heap.size w w'):Pr o w' p d m L:=by obtain⟨x,l,c,i,f⟩:=S.go;exact f (c.below e) i (λ_ c=>.inl c) (aX.pK e)
theorem Pr.alloc(S:Pr o w p d m L)(c:Obj):Pr o (w.alloc c) p d m L:=S.below ((ah _ _).alloc (ae _) c)
theorem Pr.drew(S:Pr o w p d m L):Pr o w.drew p d m L:=S.below (aH (ah _ _))
theorem Pr.wf(S:Pr o w p d m L):m.tk.wf:=by obtain⟨x,l,c,-⟩:=S.ex;exact c.wf _ (aA c.mode.cur)
theorem Pr.lt(S:Pr o w p d m L):p<w.heap.size:=ai S.lo.2 S.fr.size
theorem Pr.aiD(S:Pr o w p d m L):NL w:=λc n e=>by
 have f:=S.lo;exact(S.fr.cell (p:=(Ad 8 c)) ⟨by show 8≠p;omega,by show 8<_;omega⟩).trans (S.ops c n e)
theorem Pr.start(e:Pr o w p d m L):∃q,Pr (w,q) w p d m []/\∀{w' d' m'} (j:List It) {r:List It},Pr (w,q) w' p d' m' (j++r)->Pr o w' p d' m' (j++L):=by obtain⟨x,l,A,D,s⟩:=e.ex;have G:=e.lo;have u:=e.fr.size;refine⟨x.v.ownBlock,⟨⟨x,l,A,D,λg i=>⟨.inl i,λa c=>by cases c⟩⟩,aX.refl _ _,(λa c=>by cases c),.nil,⟨G.1,e.lt⟩,e.aiD⟩,λ{w' d' m'} j {r} S=>?_⟩;obtain⟨x',l',B,E,k⟩:=S.ex;have hold:∀a∈L,∀g,itB a=σ g->g<w.heap.size/\o.1.heap.size<=g:=λa c g f=>AV (e.ok a c) f;have H:∀a∈j,∀g,itB a=σ g->w.heap.size<=g:=λa c g f=>(AV (S.ok a (eF _ c)) f).2;refine⟨⟨x',l',B,E,λg i=>⟨?_,λa c f=>?_⟩⟩,e.fr.EM S.fr,λa c=>?_,jS.mpr ⟨(jS.mp S.ap).1,e.ap,λa c b C g f y=>by have:=H a c g f;have:=(hold b C g y).1;omega⟩,e.lo,e.ops⟩;{rcases(k g i).1 with q|q;{exact(s g q).1};exact .inr (ag u q)};{rcases bP.mp c with c|c;{exact(k g i).2 a (eF _ c) f};rcases(k g i).1 with q|q;{exact(s g q).2 a c f};have:=(hold a c g f).1;have I:w.heap.size<=g:=q;omega};rcases bP.mp c with c|c;{exact ZQ (S.ok a (eF _ c)) u};exact Cr (e.ok a c) λg i=>S.fr.block g ⟨by have:=hold a c g i;omega,(hold a c g i).1⟩
theorem Pr.new(S:Pr o w p d m L)(cs:Array υ)(t:TypeId):Pr o (w.alloc (ξ cs t)) p d m (.inl (w.heap.size,cs,t)::L):=by obtain⟨x,l,j,s,k⟩:=S.ex;have i:=S.alloc (ξ cs t);refine⟨⟨x,l,j.below ((ah _ _).alloc (ae _) _),s,λg f=>⟨(k g f).1,λa c e=>?_⟩⟩,i.fr,λa c=>?_,bk.mpr ⟨λa c g e r=>?_,S.ap⟩,S.lo,S.ops⟩;{rcases bF.mp c with rfl|c;{cases e;have:=(j.own.lt _ f).2;omega};exact(k g f).2 a c e};{rcases bF.mp c with rfl|c;{exact⟨au w _,S.fr.size⟩};exact i.ok a c};cases e;have:=(AV (S.ok a c) r).1;omega
theorem Pr.turn{i:It}(S:Pr o w p d m (a::L))(u:GN o.1.heap.size w i)(s:∀g,itB i=σ g->itB a=σ g):Pr o w p d m (i::L):=by obtain⟨x,l,q,y,k⟩:=S.ex;have r:=bk.mp S.ap;refine⟨⟨x,l,q,y,λg j=>⟨(k g j).1,λe c f=>?_⟩⟩,S.fr,λe c=>?_,bk.mpr ⟨λe c g f=>r.1 e c g (s g f),r.2⟩,S.lo,S.ops⟩;{rcases bF.mp c with rfl|c;{exact(k g j).2 _ (.head _) (s g f)};exact(k g j).2 e (.tail _ c) f};rcases bF.mp c with rfl|c;{exact u};exact S.ok e (.tail _ c)
theorem Pr.drop(S:Pr o w p d m (a::L)):Pr o w p d m L:=by obtain⟨x,l,q,j,i⟩:=S.ex;exact⟨⟨x,l,q,j,λg f=>⟨(i g f).1,λc e=>(i g f).2 c (.tail _ e)⟩⟩,S.fr,λc e=>S.ok c (.tail _ e),(bk.mp S.ap).2,S.lo,S.ops⟩
theorem Pr.perm{i:List It}(S:Pr o w p d m L)(e:L.Perm i):Pr o w p d m i:=by obtain⟨x,l,q,u,k⟩:=S.ex;exact⟨⟨x,l,q,u,λg j=>⟨(k g j).1,λc f=>(k g j).2 c (e.mem_iff.mpr f)⟩⟩,S.fr,λc f=>S.ok c (e.mem_iff.mpr f),(e.pairwise_iff (λy g r s=>y g s r)).mp S.ap,S.lo,S.ops⟩
theorem Pr.nil(S:Pr o w p d m L)(t:TypeId)(z:Nat):Pr o w p d m (.inr (ψ ν 0 0,t,z,0,[])::L):=by obtain⟨x,l,q,k,j⟩:=S.ex;refine⟨⟨x,l,q,k,λg i=>⟨(j g i).1,λe c f=>?_⟩⟩,S.fr,λe c=>?_,bk.mpr ⟨λe c g f=>(by cases f),S.ap⟩,S.lo,S.ops⟩;{rcases bF.mp c with rfl|c;{cases f};exact(j g i).2 e c f};rcases bF.mp c with rfl|c;{exact gR _ _ _ _};exact S.ok e c
theorem Pr.box(S:Pr o w p d m (.inl (b,cs,t)::L)):w.heap[b]?=σ (ξ cs t (0,0)):=(S.ok _ (.head _)).1
theorem Pr.fz(S:Pr o w p d m (.inl (b,cs,t)::L))(c:Nat):w.frozen? (Ad b c)=false:=bU S.box c
theorem Pr.at(S:Pr o w p d m (.inl (b,cs,t)::L)):b<w.heap.size/\o.1.heap.size<=b:=AV (S.ok _ (.head _)) rfl
theorem Pr.row(S:Pr o w p d m (.inr (v,t,z,n,xs)::L)):w.ownsRow o.1.heap.size t z v n xs:=S.ok _ (.head _)
theorem Pr.one(S:Pr o w p d m (.inl (b,cs,t)::L))(f:cs.size=z):Pr o w p d m (.inr (ψ (σ (Ad b 0)) 1 1,t,z,1,cs.toList)::L):=by have c:=S.ok _ (.head _);exact S.turn (show w.ownsRow o.1.heap.size t z (ψ (σ (Ad b 0)) 1 1) 1 cs.toList from⟨by simpa using f,.inr ⟨b,1,cs,rfl,c.2,c.1,by omega,by decide,by omega,by rw[aI (by simp;omega)]⟩⟩) (λg e=>e)
theorem Pr.put(S:Pr o w p d m (.inl (b,cs,t)::L))(i:Nat)(u:υ):Pr o (w.setCell (Ad b i) u) p d m (.inl (b,cs.setIfInBounds i u,t)::L):=by
 obtain⟨x,l,y,A,k⟩:=S.ex;have D:=S.at;have E:=S.lo.2;have r:=bk.mp S.ap;have C:∀e∈L,GN o.1.heap.size (w.setCell (Ad b i) u) e:=λe c=>Cr (S.ok e (.tail _ c)) λg j=>ay _ _ _ _ (λf=>r.1 e c b rfl ((show g=b from f) ▸ j));have s:Pr o (w.setCell (Ad b i) u) p d m (.inl (b,cs.setIfInBounds i u,t)::L):=
  ⟨⟨x,l,y.other (by omega) (λf=>(k b f).2 _ (.head _) rfl) i u,A,λg j=>⟨(k g j).1,λe c f=>by
   rcases bF.mp c with rfl|c
   . exact(k g j).2 _ (.head _) f
   . exact(k g j).2 e (.tail _ c) f⟩⟩,S.fr.setCell (p:=(Ad b i)) (λB=>by have:b<o.1.heap.size:=B.2;omega) u,λe c=>by
   rcases bF.mp c with rfl|c
   . exact⟨aN w b i _ _ u S.box,D.2⟩
   . exact C e c,bk.mpr r,S.lo,S.ops⟩
 exact s
theorem mN.grown{row:Option Nat}(c:mN w p x m l)(e:w.grownBy w' row)(f:∀g,row=σ g->g≠p/\x.v.ownBlock≠σ g):mN w' p x m l:=
 ⟨(e.block p c.wE.lt (λi=>(f p i.symm).1 rfl)).trans c.wE,c.own.kept e (by
   cases row with
   |none=>cases hb:x.v.ownBlock<;>simp
   |some g=>exact .inr (f g rfl).2),c.apart,c.mode,c.few,c.wf,c.fin⟩
theorem Pr.app{q:Nat}(S:Pr o w p d m (.inr (v,t,z,n,xs)::L))(E:w'.ownsRow o.1.heap.size t z (ψ (σ (Ad g 0)) q cap) q ys)(y:w.grownBy w' v.ownBlock)(k:v.ownBlock=σ g\/w.heap.size<=g) :
 Pr o w' p d m (.inr (ψ (σ (Ad g 0)) q cap,t,z,q,ys)::L):=by
 obtain⟨x,l,A,D,s⟩:=S.ex;have H:=S.lo.2;have u:=bk.mp S.ap;have B:∀c,v.ownBlock=σ c->o.1.heap.size<=c:=λc e=>(AV (S.ok _ (.head _)) e).2;have G:=S.fr.size;refine⟨⟨x,l,A.grown y (λc e=>⟨by have:=B c e;omega,λr=>(s c r).2 _ (.head _) e⟩),D,λc i=>⟨(s c i).1,λj f e=>?_⟩⟩,S.fr.grown y (λc i=>ai i.2 G) (λc e i=>by have:=B c e;have:=i.2;omega),λj f=>?_,bk.mpr ⟨λj f c e r=>?_,u.2⟩,S.lo,S.ops⟩
 .rcases bF.mp f with rfl|f
  .have r:g=c:=bf e;subst r;rcases k with k|k
   {exact(s _ i).2 _ (.head _) k};have:=(A.own.lt _ i).2;omega
  exact(s c i).2 j (.tail _ f) e
 {rcases bF.mp f with rfl|f;{exact E};exact Cr (S.ok j (.tail _ f)) λc i=>y.block c (AV (S.ok j (.tail _ f)) i).1 (λe=>u.1 j f c e.symm i)}
 have C:g=c:=bf e;subst C;rcases k with k|k
 {exact u.1 j f _ k r};have:=(AV (S.ok j (.tail _ f)) r).1;omega
end
theorem F6{L:List ByteArray}{t:ByteArray}(e:t∈L):L[wO L t]?=σ t:=by have c:L.findIdx (iZ t)<L.length:=List.findIdx_lt_length_of_exists ⟨t,e,jE.mpr rfl⟩;have:=rY (w:=c);rw[jE]at this;unfold wO;rw[af c,<- this]
theorem Jz:∀t∈cC,∀c∈fm,iZ t c=false:=by decide
theorem JA:∀t∈fm,∀c∈cC,iZ t c=false:=by decide
theorem mN.goes{w:ω}{p:Nat}{x:pV}{m:Mode}{l:List Tok}(e:mN w p x m l)(i:m.is r=true):m.alive/\m.next.len+1=m.len:=by
 cases m with
 |dead c b=>simp[Mode.is,Mode.tk]at i
 |live t u=>
   refine⟨trivial,?_⟩
   cases u with
   |cons y A=>rfl
   |nil=>
     exfalso;have j:=e.mode.2;have s:l.getLast?=σ t:=by
      have c:=gV x.pos l;rw[j]at c;rw[<- c,List.getLast?_append];rfl
     have k:=e.fin t s;have f:=F5 i;rw[k]at f
     cases f
theorem kK{m:Mode}(c:m.tk.wf){i:Nat}(e:fm[i]?=σ r)(k:wO fm r=i):m.is r=decide (aU m.tk=5+i):=by
 have u:i<16:=(aj.mp e).1;have s:r∈fm:=aA e;unfold Mode.is
 cases hk:m.tk with
 |stop=>exact(show false=decide (0=5+i)from(aP (by omega)).symm)
 |bad=>exact(show false=decide (1=5+i)from(aP (by omega)).symm)
 |name t=>exact(show false=decide (2=5+i)from(aP (by omega)).symm)
 |num t=>exact(show false=decide (3=5+i)from(aP (by omega)).symm)
 |str t=>exact(show false=decide (4=5+i)from(aP (by omega)).symm)
 |sign t=>
   rw[hk]at c;have f:t∈fm:=c;rw[kj,jE,dt];simp only[aU];constructor
   . rintro rfl;rw[k]
   . intro y
     have j:=F6 f;rw[show wO fm t=i from by omega,e]at j;exact(bf j).symm
 |word t=>
   rw[hk]at c;have f:t∈cC:=c;show iZ t r=decide (21+wO cC t=5+i);rw[Jz t f r s];exact(aP (by omega)).symm
theorem eM{m:Mode}(e:m.tk.wf){i:Nat}(j:cC[i]?=σ r)(k:wO cC r=i):m.is r=decide (aU m.tk=21+i):=by
 have s:r∈cC:=aA j;unfold Mode.is
 cases hk:m.tk with
 |stop=>exact(show false=decide (0=21+i)from(aP (by omega)).symm)
 |bad=>exact(show false=decide (1=21+i)from(aP (by omega)).symm)
 |name t=>exact(show false=decide (2=21+i)from(aP (by omega)).symm)
 |num t=>exact(show false=decide (3=21+i)from(aP (by omega)).symm)
 |str t=>exact(show false=decide (4=21+i)from(aP (by omega)).symm)
 |sign t=>
   rw[hk]at e;have c:t∈fm:=e;have f:wO fm t<16:=(aj.mp (F6 c)).1;show iZ t r=decide (5+wO fm t=21+i);rw[JA t c r s];exact(aP (by omega)).symm
 |word t=>
   rw[hk]at e;have c:t∈cC:=e;rw[kj,jE,dt];simp only[aU];constructor
   . rintro rfl;rw[k]
   . intro u
     have f:=F6 c;rw[show wO cC t=i from by omega,j]at f;exact(bf f).symm
theorem nL(m:Mode):(if aU m.tk=2 then m.next else m.wrong 2)=m.name.2/\(m.name.2.alive->(cM m.tk,m.place)=m.name.1):=by
 unfold Mode.name
 cases hk:m.tk with
 |name t=>exact⟨rfl,λ_=>rfl⟩
 |stop=>exact⟨rfl,λc=>absurd c (by cases m<;>exactλc=>c)⟩
 |bad=>exact⟨rfl,λc=>absurd c (by cases m<;>exactλc=>c)⟩
 |num t=>exact⟨rfl,λc=>absurd c (by cases m<;>exactλc=>c)⟩
 |str t=>exact⟨rfl,λc=>absurd c (by cases m<;>exactλc=>c)⟩
 |sign t=>exact⟨aE (by simp only[aU];omega),λc=>absurd c (by cases m<;>exactλc=>c)⟩
 |word t=>exact⟨aE (by simp only[aU];omega),λc=>absurd c (by cases m<;>exactλc=>c)⟩
def oe(w:ω)(g:Nat)(ks:List Nat):Prop:=∀j (h:j<ks.length),w.cell? ⟨g,j,ν⟩=σ (ι κ (ks[j]:Nat))
theorem Rg(e:List Nat)(g cap i:Nat)(w:ω)(y:oe w g e)(K:e.length<=100):Calls prog 144 #[ψ (σ ⟨g,0,ν⟩) e.length cap,ι κ i] w λG w'=>
 ∃n:Int,G=τ (ι κ n)/\(0<=n↔i∈e)/\δ w.heap.size w w':=by
 have C:=ak y;clear y;go_in;go_wp2_with fail;go_loopw[8] (λv wr=>∃c:Nat,c<=e.length/\v=ι κ c/\(∃d,wr=w.drewN d)/\Hid (∀f (j:f<e.length),f<c->e[f]≠i)) (λv _=>e.length - (intOf v).toNat);case atStart=>exact⟨0,aK _,rfl,⟨0,rfl⟩,ak (λf _ j=>by omega)⟩
 case round=>obtain⟨c,I,rfl,⟨d,rfl⟩,s⟩:=hrel;by_cases u:c<e.length;{have E:(c:Int)<e.length:=(by omega);have H:w.cell? ⟨g,c,ν⟩=σ (ι κ (e[c]:Nat)):=C.J c u;by_cases k:e[c]=i;{have B:((i:Int)==(e[c]:Nat))=true:=(by rw[dC,k]);go_wp2_with fail;go_ret;exact⟨c,rfl,⟨λ_=>k ▸ cF u,λ_=>by omega⟩,Below.drewN (ah _ _) d⟩};have B:((i:Int)==(e[c]:Nat))=false:=(by rw[aL];omega);go_wp2_with fail;refine⟨⟨c+1,by omega,by go_num,⟨d,rfl⟩,ak (λf r j=>?_)⟩,by simp[intOf];omega⟩;by_cases A:f=c;{subst A;exact k};exact s.J f r (by omega)};have E:¬(c:Int)<e.length:=(by omega);go_wp2_with fail;go_ret;refine⟨-1,rfl,⟨λj=>by omega,λj=>?_⟩,Below.drewN (ah _ _) d⟩;obtain⟨f,r,D⟩:=List.getElem_of_mem j;exact absurd D (s.J f r (by omega))
theorem ZS(c:List Nat)(g cap e:Nat)(w:ω)(i:oe w g c)(y:c.length<=100):Calls prog 115 #[ψ (σ ⟨g,0,ν⟩) c.length cap,ι κ e] w λk w'=>
 k=τ (.bool (decide (e∈c)))/\δ w.heap.size w w':=by have s:=ak (Rg c g cap e w i y);clear i;go_in;go_wp2_with fail;refine s.J.mono ?_;rintro k A ⟨n,rfl,j,f⟩;have r:=ak f;have u:=ak j;clear f j;go_wp2_with fail;go_ret;refine⟨?_,r.J⟩;show Ending.returned (Value.bool (decide (0<=n)))=_;congr 2;exact decide_eq_decide.mpr u.J
theorem Rh(a b:Int)(c:ByteArray)(d:Int)(w:ω):(Instr.field 106 (χ #[ι κ a,ι κ b,θ c,ι κ d]) 0).run prog w=.ok (ι κ a) w:=by kernel_rfl
theorem oe.below{w w':ω}{g:Nat}(e:oe w g y)(f:δ i w w')(j:g<i):oe w' g y:=λc k=>(f.cell (p:=⟨g,c,ν⟩) j).trans (e c k)
theorem VY{w:ω}{p:Nat}{x:pV}{m:Mode}{l:List Tok}(k:mN w p x m l)(c:List Nat)(g cap:Nat)(r:oe w g c)(C:c.length<=100)(B:g<w.heap.size):Calls prog 85 #[π (σ ⟨p,0,ν⟩),ψ (σ ⟨g,0,ν⟩) c.length cap] w λf w'=>
 f=τ (.bool (decide (aU m.tk∈c)))/\δ w.heap.size w w':=by have u:=ak k;have A:=ak r;clear k r;go_in;go_wp2_with fail;refine(LI u.J).mono ?_;rintro f E ⟨rfl,e⟩;have s:=A.J.below e B;have y:=ak (ZS c g cap (aU m.tk) E s C);have j:=ak e;clear e s;have G:∀w,(Instr.field 106 (χ #[ι κ (aU m.tk),ι κ m.place,θ (cM m.tk),ι κ (fR m.tk)]) 0).run prog w=.ok (ι κ (aU m.tk)) w:=λw=>Rh _ _ _ _ w;unfold GD;go_wp2_with fail;refine y.J.mono ?_;rintro f H ⟨rfl,i⟩;have D:=ak (j.J.trans (i.mono j.J.size));clear i;go_wp2_with fail;go_ret;exact⟨rfl,D.J⟩
section
variable {o:ω×Option Nat} {w w':ω} {p d b:Nat} {m:Mode} {L:List It} {t:TypeId}
theorem eS{a:υ}(c:w.heap[b]?=σ (ξ #[a,s] t (0,0))):w.cell? (Ad b 0)=σ a/\w.cell? (Ad b 1)=σ s:=by simp[World.cell?,c]
theorem wS{a:υ}(e:w.heap[b]?=σ (ξ #[a,s,c] t (0,0))):w.cell? (Ad b 0)=σ a/\w.cell? (Ad b 1)=σ s/\w.cell? (Ad b 2)=σ c:=by simp[World.cell?,e]
theorem dm{a:υ}(e:w.heap[b]?=σ (ξ #[a,s,c,f] t (0,0))):w.cell? (Ad b 0)=σ a/\w.cell? (Ad b 1)=σ s/\w.cell? (Ad b 2)=σ c/\w.cell? (Ad b 3)=σ f:=by simp[World.cell?,e]
theorem pL{a e:υ}(i:w.heap[b]?=σ (ξ #[a,s,c,f,e] t (0,0))):w.cell? (Ad b 0)=σ a/\w.cell? (Ad b 1)=σ s/\w.cell? (Ad b 2)=σ c/\w.cell? (Ad b 3)=σ f/\w.cell? (Ad b 4)=σ e:=by simp[World.cell?,i]
theorem pM(m:Mode)(c:Nat):m.next.fail c m.place=m.wrong c:=by
 cases m with
 |dead c b=>rfl
 |live t e=>cases e<;>rfl
theorem vF(a b:Int)(e:ByteArray)(c:Int)(w:ω):(Instr.field 106 (χ #[ι κ a,ι κ b,θ e,ι κ c]) 0).run prog w=.ok (ι κ a) w/\(Instr.field 106 (χ #[ι κ a,ι κ b,θ e,ι κ c]) 1).run prog w=.ok (ι κ b) w/\(Instr.field 106 (χ #[ι κ a,ι κ b,θ e,ι κ c]) 3).run prog w=.ok (ι κ c) w:=⟨by kernel_rfl,by kernel_rfl,by kernel_rfl⟩
theorem Pr.next(S:Pr o w p d m L):Calls prog 45 #[π (σ (Ad p 0))] w λc w'=>
 c=τ (χ #[ι κ (aU m.tk),ι κ m.place,θ (cM m.tk),ι κ (fR m.tk)])/\Pr o w' p d m L:=by obtain⟨x,l,e,-⟩:=S.ex;refine(LI e).mono ?_;rintro c w' ⟨rfl,f⟩;exact⟨rfl,S.below f⟩
theorem Pr.take(S:Pr o w p d m L):Calls prog 59 #[π (σ (Ad p 0))] w λc w'=>
 c=τ (χ #[ι κ (aU m.tk),ι κ m.place,θ (cM m.tk),ι κ (fR m.tk)])/\Pr o w' p d m.next L:=by obtain⟨x,l,i,f⟩:=S.st;refine(aes i).mono ?_;rintro c w' ⟨rfl,e⟩;exact⟨rfl,f e⟩
theorem Pr.fail(S:Pr o w p d m L)(c b:Nat)(k:c≠0):Calls prog 66 #[π (σ (Ad p 0)),χ #[ι κ c,ι κ b]] w λe w'=>
 e=τ (.tuple #[])/\Pr o w' p d (m.fail c b) L:=by obtain⟨x,l,j,i⟩:=S.st;refine(aeu j c b k).mono ?_;rintro e w' ⟨rfl,f⟩;exact⟨rfl,i f⟩
theorem Pr.refuse(e:Pr o w p d m L)(a b:Nat)(j:ByteArray)(i:Nat):Calls prog 46 #[π (σ (Ad p 0)),χ #[ι κ a,ι κ b,θ j,ι κ i]] w λc w'=>
 c=τ (.tuple #[])/\Pr o w' p d (m.fail 2 b) L:=by obtain⟨q,S,fin⟩:=e.start;go_in;go_wp2_with fail;refine((S.alloc _).fail 2 b (by decide)).mono ?_;rintro c k ⟨rfl,f⟩;go_wp2_with fail;go_end0;exact⟨rfl,fin [] f⟩
theorem Pr.VZ{x:υ}(S:Pr o w p d m (.inl (b,#[x,s],t)::L))(a c:υ):Pr o ((w.setCell (Ad b 0) a).setCell (Ad b 1) c) p d m (.inl (b,#[a,c],t)::L):=(S.put 0 a).put 1 c
theorem Pr.asA{x z:υ}(S:Pr o w p d m (.inl (b,#[x,s,z],t)::L))(a c e:υ):Pr o (((w.setCell (Ad b 0) a).setCell (Ad b 1) c).setCell (Ad b 2) e) p d m (.inl (b,#[a,c,e],t)::L):=((S.put 0 a).put 1 c).put 2 e
theorem Pr.aew{x z:υ}(S:Pr o w p d m (.inl (b,#[x,s,z,c],t)::L))(a e f i:υ):Pr o ((((w.setCell (Ad b 0) a).setCell (Ad b 1) e).setCell (Ad b 2) f).setCell (Ad b 3) i) p d m (.inl (b,#[a,e,f,i],t)::L):=(((S.put 0 a).put 1 e).put 2 f).put 3 i
theorem Pr.must(s:Pr o w p d m L)(j:Nat)(i:Bool)(r:decide (aU m.tk=j)=i):Calls prog 64 #[π (σ (Ad p 0)),ι κ j] w λk w'=>
 k=τ (χ #[ι κ (aU m.tk),ι κ m.place,θ (cM m.tk),ι κ (fR m.tk)])/\Pr o w' p d (cond i m.next (m.wrong 2)) L:=by
 obtain⟨q,S,fin⟩:=s.start;have I:((aU m.tk:Int) != j)=!i:=by rw[<- r,bne];congr 1;rw[kj];simp;omega
 clear r;go_in;go_wp2_with fail;refine(S.new #[ι κ 0,ι κ 0,θ ⟨#[]⟩,ι κ 0] 106).take.mono ?_;rintro k Q ⟨rfl,c⟩;have u:=c.new #[ι κ (aU m.tk),ι κ m.place,θ (cM m.tk),ι κ (fR m.tk)] 106;have K:=c.at;cases i;(case' true=>obtain⟨y,A,B,C⟩:=dm c.box;have z:=c.fz;go_wp2_with fail;have e:=(c.aew (ι κ (aU m.tk)) (ι κ m.place) (θ (cM m.tk)) (ι κ (fR m.tk))).alloc (ξ #[ι κ (aU m.tk),ι κ m.place,θ (cM m.tk),ι κ (fR m.tk)] 106);generalize World.alloc (World.setCell _ _ _) _=WF at e ⊢);(case' false=>go_wp2_with fail;refine(u.refuse _ _ _ _).mono ?_;rintro k R ⟨rfl,f⟩;rw[pM]at f;obtain⟨M,N,O,P⟩:=dm f.box;obtain⟨y,A,B,C⟩:=dm f.drop.box;have z:=f.drop.fz;go_wp2_with fail;have e:=f.drop.aew (ι κ (aU m.tk)) (ι κ m.place) (θ (cM m.tk)) (ι κ (fR m.tk));generalize World.setCell _ _ _=WF at e ⊢);all_goals(obtain⟨D,E,G,H⟩:=dm e.box;(try simp only[Exit.inBlock,Exit.then]);refine aB (v:=_) (by simp[results,results64,go_sem,D,E,G,H];try rfl) rfl ?_;exact⟨rfl,fin [] e⟩)
theorem Pr.sign(c:Pr o w p d m L)(f:m.tk.wf->m.is r=decide (aU m.tk=i)):Calls prog 64 #[π (σ (Ad p 0)),ι κ i] w λj w'=>
 j=τ (χ #[ι κ (aU m.tk),ι κ m.place,θ (cM m.tk),ι κ (fR m.tk)])/\Pr o w' p d (m.take r) L:=by have e:m.take r=cond (decide (aU m.tk=i)) m.next (m.wrong 2):=(by unfold Mode.take;rw[f c.wf];cases decide (aU m.tk=i)<;>rfl);rw[e];exact c.must i _ rfl
theorem Pr.name(k:Pr o w p d m L):Calls prog 61 #[π (σ (Ad p 0))] w λj w'=>
 j=τ (χ #[θ (cM m.tk),ι κ m.place])/\Pr o w' p d m.name.2 L:=by obtain⟨q,S,fin⟩:=k.start;have i:cond (decide (aU m.tk=2)) m.next (m.wrong 2)=m.name.2:=(by rw[<- (nL m).1];by_cases r:aU m.tk=2<;>simp[r]);have f:=(S.new #[θ ⟨#[]⟩,ι κ 0] 110).must 2 _ rfl;rw[i]at f;clear i;go_in;go_wp2_with fail;refine f.mono ?_;rintro j C ⟨rfl,c⟩;obtain⟨A,B⟩:=eS c.box;have z:=c.fz;have y:=c.at;go_wp2_with fail;have e:=(c.VZ (θ (cM m.tk)) (ι κ m.place)).alloc (ξ #[ι κ (aU m.tk),ι κ m.place,θ (cM m.tk),ι κ (fR m.tk)] 106);generalize World.alloc (World.setCell _ _ _) _=WF at e ⊢;obtain⟨s,u⟩:=eS e.box;(try simp only[Exit.inBlock,Exit.then]);refine aB (v:=_) (by simp[results,results61,go_sem,s,u];try rfl) rfl ?_;exact⟨rfl,fin [] e⟩
theorem Rk(w:ω)(c:Nat):oe (w.alloc (ξ #[ι κ c] 104)) w.heap.size [c]:=λj i=>by
 have e:j=0:=by simp at i;omega
 subst e;have f:=au w (ξ #[ι κ c] 104);simp only[World.cell?,f];rfl
theorem Pr.Rl(S:Pr o w p d m L)(c:List Nat)(g cap:Nat)(r:oe w g c)(s:c.length<=100)(k:g<w.heap.size)(e:Bool)(i:decide (aU m.tk∈c)=e):Calls prog 85 #[π (σ (Ad p 0)),ψ (σ (Ad g 0)) c.length cap] w λf w'=>
 f=τ (.bool e)/\Pr o w' p d m L:=by obtain⟨x,l,q,-⟩:=S.ex;refine(VY q c g cap r s k).mono ?_;rintro f w' ⟨rfl,j⟩;rw[i];exact⟨rfl,S.below j⟩
theorem Pr.is1(S:Pr o w p d m L)(c:Nat)(e:Bool)(f:decide (aU m.tk=c)=e):Calls prog 85 #[π (σ (Ad p 0)),ψ (σ (Ad w.heap.size 0)) 1 1] (w.alloc (ξ #[ι κ c] 104)) λi w'=>
 i=τ (.bool e)/\Pr o w' p d m L:=(S.alloc _).Rl [c] w.heap.size 1 (Rk w c) (by simp) (by simp) e (by simpa using f)
theorem Pr.GQ(j:Pr o w p d m L)(f:Nat)(c:Bool)(k:decide (aU m.tk=f)=c):Calls prog 88 #[π (σ (Ad p 0)),ι κ f] w λi w'=>
 i=τ (.bool c)/\Pr o w' p d (cond c m.next m) L:=by obtain⟨q,S,fin⟩:=j.start;go_in;go_wp2_with fail;refine(S.is1 f c k).mono ?_;rintro i r ⟨rfl,e⟩;cases c;(case' true=>go_wp2_with fail;refine e.take.mono ?_;rintro i s ⟨rfl,e⟩);all_goals(go_wp2_with fail;go_ret;exact⟨rfl,fin [] e⟩)
end
def amD(s:ByteArray):Nat:=if fm.any (iZ s)then 5+wO fm s else 21+wO cC s
def fW(s:ByteArray):Nat:=opsL.getD (amD s) 0
def Rm(k:Nat)(n:Int)(s:ByteArray):υ:=.iface 317 (χ #[ι κ k,.bool false,ι κ n,θ s])
def oL:Ex->υ
 |.num n=>Rm 0 n ⟨#[]⟩
 |.str s=>Rm 1 0 s
 |.bool b=>Rm 2 (if b then 1 else 0) ⟨#[]⟩
 |.col s a=>.iface 110 (χ #[θ s,ι κ a])
 |.neg a x=>.iface 325 (χ #[ι κ 13,ι κ a,oL x])
 |.not a x=>.iface 325 (χ #[ι κ 14,ι κ a,oL x])
 |.kG no _ x=>.iface 320 (χ #[oL x,.bool no])
 |.two op a x y=>.iface 329 (χ #[ι κ (fW op),ι κ a,oL x,oL y])
 |.junk=>Rm 0 0 ⟨#[]⟩
theorem sW(c:Ex):∃t v,oL c=.iface t v:=by cases c<;>exact⟨_,_,rfl⟩
theorem oe.keep{w w':ω}{p g:Nat}(e:oe w g y)(s:aX (Other p w) w w')(k:g≠p)(j:g<w.heap.size):oe w' g y:=λr i=>by
 have f:=s.block g ⟨k,j⟩;have c:=e r i;simp only[World.cell?]at c ⊢;rw[f];exact c
def gH(S:Mode->Ex×Mode):Prop:=∀m,(S m).2.len<=m.len
theorem pN{m:Mode}:m.alive↔1<=m.len:=by
 cases m with
 |live t f=>exact⟨λ_=>by simp[Mode.len],λ_=>trivial⟩
 |dead e b=>exact⟨λc=>absurd c (λc=>c),λc=>by simp[Mode.len]at c⟩
theorem gH.back{S:Mode->Ex×Mode}(c:gH S){m:Mode}(e:(S m).2.alive):m.alive:=pN.mpr (ag (pN.mp e) (c m))
theorem qV(m:Mode)(c:Nat):(m.wrong c).len<=m.len:=by rw[(oV (di _ c)).1];exact aK _
theorem gH.chain{S:Mode->Ex×Mode}(e:gH S)(i:List ByteArray):∀n c m,(lY S i n c m).2.len<=m.len:=by
 intro n
 induction n with
 |zero=>exactλc m=>ae _
 |succ n f=>
   intro c m;unfold lY;split
   . exact ag (f _ _) (ag (e _) dr)
   . exact ae _
theorem gH.links{S:Mode->Ex×Mode}(c:gH S)(e:List ByteArray):gH (tg S e):=λm=>ag (c.chain e _ _ _) (c m)
def yD:Option AK->Prop
 |none=>True
 |some l=>gH l.expr/\gH l.Lw/\gH l.turn
theorem gH.atom{sub:Option AK}(c:yD sub):gH (jJ sub):=λm=>by
 unfold jJ;split
 . cases sub with
   |none=>exact qV m 3
   |some l=>exact ag (take_len _ _) (ag (c.1 _) dr)
 . split
   . exact dr
   . exact dr
   . exact dr
   . split
     . exact dr
     . split
       . exact dr
       . exact qV m 2
   . exact qV m 2
theorem gH.turn{sub:Option AK}(c:yD sub):gH (iE sub):=λm=>by
 unfold iE;split
 . cases sub with
   |none=>exact qV m 3
   |some l=>exact ag (c.2.2 _) dr
 . exact gH.atom c m
theorem gH.part{sub:Option AK}(c:yD sub):gH (AL sub):=(gH.turn c).links _
theorem gH.total{sub:Option AK}(c:yD sub):gH (ji sub):=(gH.part c).links _
theorem gH.test{sub:Option AK}(e:yD sub):gH (oD sub):=λm=>by
 have c:=gH.total e;unfold oD;simp only;split
 . exact ag (c _) (ag dr (c m))
 . split
   . refine ag (take_len _ _) (ag ?_ (c m))
     split
     . exact ag dr dr
     . exact dr
   . exact c m
theorem gH.Lw{sub:Option AK}(c:yD sub):gH (iK sub):=λm=>by
 unfold iK;split
 . cases sub with
   |none=>exact qV m 3
   |some l=>exact ag (c.2.1 _) dr
 . exact gH.test c m
theorem gH.both{sub:Option AK}(c:yD sub):gH (AO sub):=(gH.Lw c).links _
theorem gH.expr{sub:Option AK}(c:yD sub):gH (mO sub):=(gH.both c).links _
theorem Bt:∀d,yD (lvl d)
 |0=>trivial
 |d+1=>⟨gH.expr (Bt d),gH.Lw (Bt d),gH.turn (Bt d)⟩
theorem NM(m:Mode):(oT m).2.len<=m.len:=gH.expr (Bt 8) m
def GR(L:List (ByteArray×Nat)):Prop:=∀m:Mode,m.tk.wf->∀q∈L,m.is q.1=decide (aU m.tk=q.2)/\opsL[q.2]?=σ (fW q.1)
theorem GU{L:List (ByteArray×Nat)}(i:GR L){m:Mode}(s:m.tk.wf) :
 (aU m.tk∈L.map (·.2)->∃o,(L.map (·.1)).find? (λo=>m.is o)=σ o/\opsL[aU m.tk]?=σ (fW o)/\m.is o=true)/\(¬aU m.tk∈L.map (·.2)->(L.map (·.1)).find? (λo=>m.is o)=ν):=by
 induction L with
 |nil=>exact⟨λi=>by simp at i,λ_=>rfl⟩
 |cons q L u=>
   have f:=i m s q (by simp);have r:=u (λm e q f=>i m e q (cy _ f));simp only[List.map_cons,List.mem_cons,List.find?_cons];by_cases c:aU m.tk=q.2
   . have j:m.is q.1=true:=by rw[f.1];simpa using c
     refine⟨λ_=>⟨q.1,by rw[j],by rw[c];exact f.2,j⟩,λk=>absurd (Or.inl c) k⟩
   . have j:m.is q.1=false:=by rw[f.1];simpa using c
     rw[j];refine⟨λe=>r.1 (e.resolve_left c),λk=>r.2 (λe=>k (.inr e))⟩
theorem GV{m:Mode}(c:m.next.alive):m.alive:=by
 cases m with
 |live t f=>trivial
 |dead e b=>exact c
def Each{α β:Type}(P:α->β->Prop):List α->List β->Prop
 |[],[]=>True
 |a::u,b::v=>P a b/\Each P u v
 |_,_=>False
theorem Each.mono{j r:Type}{f i:j->r->Prop}:∀{e:List j} {v:List r},Each f e v->(∀a∈e,∀b,f a b->i a b)->Each i e v
 |[],[],_,_=>trivial
 |_::_,_::_,c,k=>⟨k _ (by simp) _ c.1,Each.mono c.2 (λa s b=>k a (cy _ s) b)⟩
 |[],_::_,c,_=>absurd c (λc=>c)
 |_::_,[],c,_=>absurd c (λc=>c)
theorem Each.snoc{f i:Type}{e:f->i->Prop}{a:f}{b:i}:∀{j:List f} {v:List i},Each e j v->e a b->Each e (j++[a]) (v++[b])
 |[],[],_,F7=>⟨F7,trivial⟩
 |_::_,_::_,c,F7=>⟨c.1,Each.snoc c.2 F7⟩
 |[],_::_,c,_=>absurd c (λc=>c)
 |_::_,[],c,_=>absurd c (λc=>c)
theorem Each.len{f i:Type}{j:f->i->Prop}:∀{e:List f} {v:List i},Each j e v->e.length=v.length
 |[],[],_=>rfl
 |_::_,_::_,c=>by simp[Each.len c.2]
 |[],_::_,c=>absurd c (λc=>c)
 |_::_,[],c=>absurd c (λc=>c)
def V0(a:Nat×υ):List υ:=[ι κ a.1,a.2]
def tE(l:List (Nat×υ)):List υ:=l.flatMap V0
theorem GX(l:List (Nat×υ))(a:Nat×υ):tE (l++[a])=tE l++V0 a:=by simp[tE]
theorem DS{m:Mode}(c:(oT m).2.alive):m.alive:=gH.back (gH.expr (Bt 8)) c
def Rn(v:υ):Prop:=v=.nilIface\/∃t u,v=.iface t u
theorem V1{e:Type}(one:Mode->e×Mode)(n:Nat)(l:List e)(c b:Nat):jT one n l (.dead c b)=(l,.dead c b):=by cases n<;>rfl
theorem V2{e:Type}{one:Mode->e×Mode}{m:Mode}{b:Nat}(c:(one m).2=.dead i b):(dc one m).2=.dead i b:=by unfold dc;rw[c,V1]
theorem wT(m:Mode)(c:Nat):∃a b,m.wrong c=.dead a b:=by
 cases m with
 |live t e=>exact⟨c,t.pl,rfl⟩
 |dead a b=>exact⟨a,b,rfl⟩
theorem back{m m':Mode}(c:m'.len<=m.len)(e:m'.alive):m.alive:=pN.mpr (ag (pN.mp e) c)
theorem jb{m:Mode}(c:(m.take r).alive):m.alive:=back (take_len m r) c
theorem Kx{f:Type}{one:Mode->f×Mode}(c:∀m,(one m).2.len<=m.len){m:Mode}(e:(dc one m).2.alive):m.alive:=back (od c m) e
def koF:Ex->Nat
 |.col _ _=>272
 |.neg _ _=>322
 |.not _ _=>322
 |.kG _ _ _=>321
 |.two _ _ _ _=>323
 |_=>320
def qG(e:Ex):υ:=match oL e with
 |.iface _ v=>v
 |v=>v
def DT(r:Ending):Nat ⊕ (Nat×Nat)->Prop
 |.inl k=>r=τ (.tuple #[ι κ (k:Nat),χ #[ι κ 0,ι κ 0]])
 |.inr q=>∃k:Nat,r=τ (.tuple #[ι κ k,χ #[ι κ q.1,ι κ q.2]])
theorem pb(c:Ex):∃f,oL c=.iface f (qG c)/\(∀w,Sem.run prog (method 566 f (qG c) "quarry/quarry.kindOver") w=.ok (koF c,qG c) w)/\(∀(e:Array υ) (w:ω),Sem.run prog (callFunc (koF c) e) w=.ok (.enter (koF c) e) w):=by
 cases c with
 |num n=>exact⟨_,rfl,λw=>by kernel_rfl,call320⟩
 |str n=>exact⟨_,rfl,λw=>by kernel_rfl,call320⟩
 |bool n=>exact⟨_,rfl,λw=>by kernel_rfl,call320⟩
 |junk=>exact⟨_,rfl,λw=>by kernel_rfl,call320⟩
 |col k a=>exact⟨_,rfl,λw=>by kernel_rfl,call272⟩
 |neg a x=>exact⟨_,rfl,λw=>by kernel_rfl,call322⟩
 |not a x=>exact⟨_,rfl,λw=>by kernel_rfl,call322⟩
 |kG i a x=>exact⟨_,rfl,λw=>by kernel_rfl,call321⟩
 |two j a x r=>exact⟨_,rfl,λw=>by kernel_rfl,call323⟩
def Fz(cols:List br)(cv:υ)(e:Ex):Prop:=∀w,ew w cv cols->Calls prog (koF e) #[qG e,cv] w λr w'=>DT r (cH cols e)/\δ w.heap.size w w'
theorem amG{a b a' b':υ}{t:TypeId}(c:u.heap[i]?=σ (ξ #[a,b] t (0,0)))(o:Obj):(((u.setCell ⟨i,0,ν⟩ a').setCell ⟨i,1,ν⟩ b').alloc o).cell? ⟨i,0,ν⟩=σ a'/\(((u.setCell ⟨i,0,ν⟩ a').setCell ⟨i,1,ν⟩ b').alloc o).cell? ⟨i,1,ν⟩=σ b':=by refine aR (t:=t) ((ct _ _ _ ?_).trans (aN _ _ 1 _ _ _ (aN _ _ 0 _ _ _ c)));simpa[World.setCell]using aw c
section
variable {cols:List br} {cv:υ}
theorem aez{e:Bool}{a:Nat}{x:Ex}(T:Fz cols cv x):Fz cols cv (.kG e a x):=by
 intro w A;obtain⟨r,Y,hm,Z⟩:=pb x;obtain⟨s,j⟩:=nm ((w.alloc (obW (.iface r (qG x)) e)).alloc (gY 0 0));have y:=vC j;have E:s.heap[w.heap.size+1]?=σ (gY 0 0):=by rw[j];have:=au (w.alloc (obW (.iface r (qG x)) e)) (gY 0 0);simpa using this
 have P:s.heap[w.heap.size]?=σ (obW (.iface r (qG x)) e):=by rw[j];exact(ct _ _ _ (by simp)).trans (au w (obW (.iface r (qG x)) e))
 have K:=T s (A.below y (ae _));have C:=y;have D:=ak E;have M:=ak j;obtain⟨va,dq,R⟩:=A.slice;subst R;show Calls prog 321 #[χ #[oL x,.bool e],_] w _;rw[Y];clear A y E j P;go_in;go_wp2_with fail;rw[<- M.J];refine K.mono ?_;rintro U X ⟨c,u⟩;have f:=(u.block _ (aw D.J)).trans D.J;have O:=C.trans (u.mono C.size);have I:=aw f;obtain⟨i,b,H,G,Q⟩:∃(i b H:Nat),DT (τ (.tuple #[ι κ 2,χ #[ι κ i,ι κ b]])) (cH cols (.kG e a x))/\U=τ (.tuple #[ι κ H,χ #[ι κ i,ι κ b]]):=by
  cases hk:cH cols x with
  |inl B=>rw[hk]at c;exact⟨0,0,B,by simp only[cH,hk];rfl,c⟩
  |inr q=>rw[hk]at c;obtain⟨B,c⟩:=c;exact⟨q.1,q.2,B,by simp only[cH,hk];exact⟨2,rfl⟩,c⟩
 subst Q;have N:=G;have k:=(ct X (gY i b) _ I).trans f;obtain⟨q0,q1⟩:=aR k;have z0:=bU k 0;have z1:=bU k 1;obtain⟨p0,p1⟩:=aR f;obtain⟨V,W⟩:=amG (a':=ι κ (i:Nat)) (b':=ι κ (b:Nat)) f (gY i b);have y0:=bU f 0;have y1:=bU f 1;clear u c G f k;go_wp2_with fail;go_region;all_goals((try go_wp2_with fail);(try simp only[Exit.inBlock,Exit.then]);refine aB (by simp[results,results321,go_sem,V,W];rfl) rfl ?_;exact⟨N,by repeat(first|exact O|refine aH ?_|refine below_drewN ?_ _|refine eX ?_ (by simp) _|refine gS ?_ (by simp;omega) _)⟩)
end
theorem Ro{cols:List br}{s:ByteArray}:(∀e,Lx cols s=σ e->∃c,cols[e]?=σ c/\cols.find? (λc=>iZ c.1 s)=σ c)/\(Lx cols s=ν->cols.find? (λc=>iZ c.1 s)=ν):=by unfold Lx;constructor;{intro e j;rw[iD]at j;obtain⟨f,k,r⟩:=j;refine⟨cols[e],af f,?_⟩;rw[List.find?_eq_some_iff_getElem];exact⟨k,e,f,rfl,λA y=>by simpa using r A y⟩};intro i;rw[List.findIdx?_eq_none_iff]at i;rw[ud];intro c u;simp[i c u]
theorem LN(c:Nat)(n:Int)(f:ByteArray)(cv:υ)(w:ω):Calls prog 320 #[χ #[ι κ c,.bool false,ι κ n,θ f],cv] w λe w'=>e=τ (.tuple #[ι κ c,χ #[ι κ 0,ι κ 0]])/\δ w.heap.size w w':=by go_in;go_wp2_with fail;(try simp only[Exit.inBlock,Exit.then]);refine aB (by simp[results,results320,go_sem];rfl) rfl ?_;exact⟨rfl,((ah _ _).alloc (ae _) _).alloc (by simp) _⟩
theorem aiG(cols:List br)(cv:υ)(V:cols.length<=100000)(c:ByteArray)(a:Nat):Fz cols cv (.col c a):=by
 intro w s;obtain⟨A,i⟩:=nm ((w.alloc (obU c a)).alloc (gY 0 0));have r:=vC i;have K:A.heap[w.heap.size+1]?=σ (gY 0 0):=by rw[i];have:=au (w.alloc (obU c a)) (gY 0 0);simpa using this
 have M:A.heap[w.heap.size]?=σ (obU c a):=by rw[i];exact(ct _ _ _ (by simp)).trans (au w (obU c a))
 have Q:=Cj cols cv c A (s.below r (ae _)) V;have P:=s.below r (ae _);have D:=r;have E:=ak K;have G:=ak M;have R:=ak i;obtain⟨va,dq,W⟩:=s.slice;subst W;show Calls prog 272 #[χ #[θ c,ι κ a],_] w _;clear s r K i M;go_in;go_wp2_with fail;rw[<- R.J];refine Q.mono ?_;rintro aa w1 ⟨rfl,e⟩;have f:=(e.block _ (aw E.J)).trans E.J;have u:=(e.block _ (aw G.J)).trans G.J;have I:=D.trans (e.mono D.size);obtain⟨N,O⟩:=aR f;have y0:=bU f 0;have y1:=bU f 1;obtain⟨s0,s1⟩:=aR u;have Z:=ak f;have k:=Ro (cols:=cols) (s:=c)
 cases F8:Lx cols c with
 |none=>
   have j:yg cols c=-1:=by unfold yg;rw[F8]
   have y:=(show DT (τ (.tuple #[ι κ (0:Nat),χ #[ι κ (5:Nat),ι κ a]])) (cH cols (.col c a))from by simp only[cH,k.2 F8];exact⟨0,rfl⟩);rw[j];clear e f u k F8 j;go_wp2_with fail;go_region
   all_goals
    (try go_wp2_with fail)
    (try simp only[Exit.inBlock,Exit.then])
    refine aB (by simp[results,results272,go_sem,N,O];rfl) rfl ?_;exact⟨y,by repeat(first|exact I|refine aH ?_|refine below_drewN ?_ _|refine eX ?_ (by simp) _|refine gS ?_ (by simp;omega) _)⟩
 |some B=>
   have j:yg cols c=(B:Nat):=by unfold yg;rw[F8]
   obtain⟨T,C,H⟩:=k.1 B F8;have X:(B:Int)<cols.length:=by have:=(aj.mp C).1;omega
   obtain⟨cg,co,Y,U,d0,d1⟩:=(P.below e (ae _)).get C
   cases U
   have y:=(show DT (τ (.tuple #[ι κ T.2,χ #[ι κ 0,ι κ 0]])) (cH cols (.col c a))from by simp only[cH,H];rfl);rw[j];clear e f u k F8 j C H;go_wp2_with fail
   (try go_region)
   all_goals
    (try go_wp2_with fail)
    (try simp only[Exit.inBlock,Exit.then])
    refine aB (by simp[results,results272,go_sem,N,O];rfl) rfl ?_;exact⟨y,by repeat(first|exact I|refine aH ?_|refine below_drewN ?_ _|refine eX ?_ (by simp) _|refine gS ?_ (by simp;omega) _)⟩
theorem NS(cols:List br):∀(f:Ex) {q:Nat×Nat},cH cols f=.inr q->¬q.1=0/\(q.1=5\/q.1=7):=by
 intro f
 induction f with
 |num n=>intro q c;cases c
 |str n=>intro q c;cases c
 |bool n=>intro q c;cases c
 |junk=>intro q c;cases c
 |col s a=>
   intro q c;simp only[cH]at c;split at c
   . cases c
   . cases c;exact⟨by simp,.inl rfl⟩
 |kG r a x e=>
   intro q c;simp only[cH]at c;split at c
   . cases c;exact e (by assumption)
   . cases c
 |neg a x e=>
   intro q c;simp only[cH]at c;split at c
   . cases c;exact e (by assumption)
   . split at c
     . cases c
     . cases c;exact⟨by simp,.inr rfl⟩
 |not a x e=>
   intro q c;simp only[cH]at c;split at c
   . cases c;exact e (by assumption)
   . split at c
     . cases c
     . cases c;exact⟨by simp,.inr rfl⟩
 |two k a x u i j=>
   intro q c;simp only[cH]at c;split at c
   . cases c;exact i (by assumption)
   . split at c
     . cases c;exact j (by assumption)
     . generalize (if pq k=true then(0:Nat)else 2)=wt at c
       split at c
       . cases c;exact⟨by simp,.inr rfl⟩
       . cases c
theorem yE{cols:List br}{x:Ex}{i:Ending}(c:DT i (cH cols x)):∃(e f b:Nat),i=τ (.tuple #[ι κ e,χ #[ι κ f,ι κ b]])/\((f=0/\b=0/\cH cols x=.inl e)\/(f≠0/\cH cols x=.inr (f,b))):=by
 cases hk:cH cols x with
 |inl e=>rw[hk]at c;exact⟨e,0,0,c,.inl ⟨rfl,rfl,rfl⟩⟩
 |inr q=>rw[hk]at c;obtain⟨e,c⟩:=c;exact⟨e,q.1,q.2,c,.inr ⟨(NS cols x hk).1,rfl⟩⟩
theorem ZW{cols:List br}{cv:υ}{a O:Nat}{x:Ex}{j:Nat ⊕ (Nat×Nat)}(aa:(O=13/\i=0)\/(O=14/\i=2))(K:j=match cH cols x with|.inr c=>.inr c|.inl ab=>if ab=i then .inl i else .inr (7,a))(ih:Fz cols cv x)(w:ω)(D:ew w cv cols):Calls prog 322 #[χ #[ι κ O,ι κ a,oL x],cv] w λP w'=>DT P j/\δ w.heap.size w w':=by
 obtain⟨E,x9,hm,LL⟩:=pb x;obtain⟨I,s⟩:=nm ((w.alloc (obZ O a (.iface E (qG x)))).alloc (gY 0 0));have e:=vC s;have Z:I.heap[w.heap.size+1]?=σ (gY 0 0):=by rw[s];have:=au (w.alloc (obZ O a (.iface E (qG x)))) (gY 0 0);simpa using this
 have hS:I.heap[w.heap.size]?=σ (obZ O a (.iface E (qG x))):=by rw[s];exact(ct _ _ _ (by simp)).trans (au w (obZ O a (.iface E (qG x))))
 have HI:=ih I (D.below e (ae _));have HC:=D.below e (ae _);have H:=e;have T:=ak Z;have U:=ak hS;have HW:=ak s;obtain⟨va,dq,hv⟩:=D.slice;subst hv;rcases aa with⟨Y,X⟩|⟨Y,X⟩
 all_goals
  (try have ac:((O:Int)==13)=true:=by rw[dC];omega);(try have ac:((O:Int)==13)=false:=by rw[aL];omega);(try have ad:((O:Int)==14)=true:=by rw[dC];omega);(try have ad:((O:Int)==14)=false:=by rw[aL];omega);clear Y;clear D e Z s hS;rw[x9];go_in;go_wp2_with fail;rw[<- HW.J];refine HI.mono ?_;rintro P f ⟨hr,k⟩;obtain⟨y,c,b,rfl,kR⟩:=yE hr;have Q:=(k.block _ (aw T.J)).trans T.J;have G:=(k.block _ (aw U.J)).trans U.J;have EO:=aw Q;have C:δ f.heap.size f (f.alloc (gY c b)):=(ah _ _).alloc (ae _) _;have V:=ak ((C.block _ EO).trans Q);have NT:=ak ((C.block _ (aw G)).trans G);have HF:=ry c b (f.alloc (gY c b));have HG:=ak (au f (gY c b));have jl:=(H.trans (k.mono H.size)).trans (C.mono (ag H.size k.size));have kQ:w.heap.size+1<(f.alloc (gY c b)).heap.size:=aw V.J;clear hr k Q G C;go_wp2_with fail;refine HF.mono ?_;rintro P w3 ⟨rfl,r⟩;have A:=(r.block _ kQ).trans V.J;have R:=(r.block _ (by omega)).trans NT.J;have W:=(r.block _ (by simp)).trans HG.J;have gq:=jl.trans (r.mono jl.size);obtain⟨p0,p1⟩:=aR A;have y0:=bU A 0;have y1:=bU A 1;obtain⟨s0,s1,s2⟩:=kL R;obtain⟨g0,g1⟩:=aR W;clear r A R W;rcases kR with⟨M,e,u⟩|⟨M,u⟩
  (case' inr=>have B:=(show DT (τ (.tuple #[ι κ (0:Nat),χ #[ι κ c,ι κ b]])) j from by rw[K,u];exact⟨0,rfl⟩);rw[show decide (c≠0)=true by simpa using M]);(case' inl=>subst M;subst e;rw[show decide ((0:Nat)≠0)=false from rfl];by_cases N:y=i;(case' pos=>have B:=(show DT (τ (.tuple #[ι κ (i:Nat),χ #[ι κ 0,ι κ 0]])) j from by rw[K,u];simp only[N,if_true];rfl);rw[X]at B;(try have mK:((y:Int) != 0)=false:=by rw[bne_eq_false_iff_eq];omega);(try have mK:((y:Int) != 2)=false:=by rw[bne_eq_false_iff_eq];omega));(case' neg=>have B:=(show DT (τ (.tuple #[ι κ (0:Nat),χ #[ι κ (7:Nat),ι κ a]])) j from by rw[K,u];simp only[N,if_false];exact⟨0,rfl⟩);(try have mK:((y:Int) != 0)=true:=by rw[jA];omega);(try have x8:((y:Int) != 2)=true:=by rw[jA];omega));all_goals clear N);all_goals(clear u;go_wp2_with fail;(try go_region);all_goals((try go_wp2_with fail);refine aB (by simp[results,results322,go_sem,p0,p1];rfl) rfl ?_;exact⟨B,by repeat(first|exact gq|refine aH ?_|refine below_drewN ?_ _|refine eX ?_ (by simp) _|refine gS ?_ (by simp;omega) _)⟩))
theorem aiH{cols:List br}{cv:υ}{a:Nat}{x:Ex}(e:Fz cols cv x):Fz cols cv (.neg a x):=λw c=>ZW (O:=13) (.inl ⟨rfl,rfl⟩) rfl e w c
theorem aiI{cols:List br}{cv:υ}{a:Nat}{x:Ex}(e:Fz cols cv x):Fz cols cv (.not a x):=λw c=>ZW (O:=14) (.inr ⟨rfl,rfl⟩) rfl e w c
def kdK(o:Nat):Nat:=if o<=4 then 0 else 2
def kdT(o l r:Nat):Bool:=if o<=4 then decide (l=0/\r=0)else if 11<=o then decide (l=2/\r=2)else decide (l=r)
theorem aeB:∀c∈sj,pq c=decide (fW c<=4)/\lH c=decide (5<=fW c/\fW c<=10)/\fW c<=12:=by decide
theorem ZX(l c:Nat):((l:Int)==(c:Nat))=decide (l=c):=by by_cases e:l=c;{simp[e]};rw[aP e,aL];omega
theorem aiL(o l c:Nat)(I:o<=12)(w:ω):Calls prog 324 #[ι κ o,ι κ l,ι κ c] w λu w'=>u=τ (.tuple #[ι κ (kdK o),.bool (kdT o l c)])/\δ w.heap.size w w':=by
 by_cases j:o<=4
 .have y:o=0\/o=1\/o=2\/o=3\/o=4:=by omega
  rw[show kdT o l c=decide (l=0/\c=0)from aF j,show kdK o=0 from aF j];rcases y with rfl|rfl|rfl|rfl|rfl<;>rcases oB (l=0)with e|e<;>rcases oB (c=0)with f|f<;>(
   have i:((l:Int)==(0:Nat))=decide (l=0):=ZX _ _
   (first|rw[bK e]at i|rw[aP e]at i)
   have k:((c:Int)==(0:Nat))=decide (c=0):=ZX _ _
   (first|rw[bK f]at k|rw[aP f]at k)
   go_in;go_wp2_with fail
   (try go_region)
   all_goals
    (try go_wp2_with fail)
    refine aB (v:=.tuple #[ι κ 0,.bool (decide (l=0/\c=0))]) (by simp[results,results324,go_sem,e,f];try first|omega|rfl) rfl ?_;exact⟨rfl,by repeat(first|exact ah _ _|refine aH ?_)⟩)
 by_cases r:11<=o
 .have s:o=11\/o=12:=by omega
  rw[show kdT o l c=decide (l=2/\c=2)from(aE j).trans (aF r),show kdK o=2 from aE j];rcases s with rfl|rfl<;>rcases oB (l=2)with e|e<;>rcases oB (c=2)with f|f<;>(
   have i:((l:Int)==(2:Nat))=decide (l=2):=ZX _ _
   (first|rw[bK e]at i|rw[aP e]at i)
   have k:((c:Int)==(2:Nat))=decide (c=2):=ZX _ _
   (first|rw[bK f]at k|rw[aP f]at k)
   go_in;go_wp2_with fail
   (try go_region)
   all_goals
    (try go_wp2_with fail)
    refine aB (v:=.tuple #[ι κ 2,.bool (decide (l=2/\c=2))]) (by simp[results,results324,go_sem,e,f];try first|omega|rfl) rfl ?_;exact⟨rfl,by repeat(first|exact ah _ _|refine aH ?_)⟩)
 skip;have A:((o:Int)==0)=false:=by rw[aL];omega
 have B:((o:Int)==1)=false:=by rw[aL];omega
 have E:((o:Int)==2)=false:=by rw[aL];omega
 have G:((o:Int)==3)=false:=by rw[aL];omega
 have H:((o:Int)==4)=false:=by rw[aL];omega
 have C:((o:Int)==11)=false:=by rw[aL];omega
 have D:((o:Int)==12)=false:=by rw[aL];omega
 rw[show kdT o l c=decide (l=c)from(aE j).trans (aE r),show kdK o=2 from aE j];rcases oB (l=c)with e|e<;>(
  have i:((l:Int)==(c:Nat))=decide (l=c):=ZX _ _
  (first|rw[bK e]at i|rw[aP e]at i)
  go_in;go_wp2_with fail
  (try go_region)
  all_goals
   (try go_wp2_with fail)
   refine aB (v:=.tuple #[ι κ 2,.bool (decide (l=c))]) (by simp[results,results324,go_sem,e];try first|omega|rfl) rfl ?_;exact⟨rfl,by repeat(first|exact ah _ _|refine aH ?_)⟩)
theorem aiM{cols:List br}{cv:υ}{a:Nat}{x c:Ex}(Bu:r∈sj)(Qr:Fz cols cv x)(Rp:Fz cols cv c):Fz cols cv (.two r a x c):=by
 intro w hc;obtain⟨E,hx,DR,a4⟩:=pb x;obtain⟨G,hy,a6,a5⟩:=pb c;obtain⟨a1,a2,a3⟩:=aeB r Bu;obtain⟨X,P⟩:=nm ((w.alloc (obT (fW r) a (.iface E (qG x)) (.iface G (qG c)))).alloc (gY 0 0));have j:=vC P;have hR:X.heap[w.heap.size+1]?=σ (gY 0 0):=by rw[P];have:=au (w.alloc (obT (fW r) a (.iface E (qG x)) (.iface G (qG c)))) (gY 0 0);simpa using this
 have hS:X.heap[w.heap.size]?=σ (obT (fW r) a (.iface E (qG x)) (.iface G (qG c))):=by rw[P];exact(ct _ _ _ (by simp)).trans (au w (obT (fW r) a (.iface E (qG x)) (.iface G (qG c))))
 have HI:=Qr X (hc.below j (ae _));have HC:=hc.below j (ae _);have U:=j;have HR:=ak hR;have HS:=ak hS;have HW:=ak P;obtain⟨va,dq,hv⟩:=hc.slice;subst hv;show Calls prog 323 #[χ #[ι κ (fW r),ι κ a,oL x,oL c],_] w _;have HK:=ak (λl s=>aiL (fW r) l s a3);have av:=ak (λ(D C:Nat) (h1:cH cols x=.inl D) (h2:cH cols c=.inl C)=>(show cH cols (.two r a x c)=if kdT (fW r) D C then .inl (kdK (fW r))else .inr (7,a)from by
  simp only[cH,h1,h2,a1,a2];unfold kdT kdK;by_cases Z:fW r<=4
  . simp only[Z,decide_true,if_true]
    by_cases f:D=0<;>by_cases hj:C=0<;>simp[f,hj]<;>omega
  . by_cases ZY:11<=fW r
    . have:¬(5<=fW r/\fW r<=10):=by omega
      simp only[Z,ZY,this,decide_false,if_true];by_cases f:D=2<;>by_cases hj:C=2<;>simp[f,hj]<;>omega
    . have:5<=fW r/\fW r<=10:=by omega
      simp only[Z,ZY,this,decide_false];by_cases f:D=C<;>simp[f]))
 rw[hx,hy];go_in;go_wp2_with fail;rw[<- HW.J];refine HI.mono ?_;rintro s i ⟨hr,A⟩;obtain⟨k1,e,b,rfl,kR⟩:=yE hr;have uh:=(A.block _ (aw HR.J)).trans HR.J;have FA:=(A.block _ (aw HS.J)).trans HS.J;have EO:=aw uh;have N:δ i.heap.size i (i.alloc (gY e b)):=(ah _ _).alloc (ae _) _;have JB:=ak ((N.block _ EO).trans uh);have NT:=ak ((N.block _ (aw FA)).trans FA);have HF:=ry e b (i.alloc (gY e b));have HG:=ak (au i (gY e b));have jl:=(U.trans (A.mono U.size)).trans (N.mono (ag U.size A.size));have uA:=(HC.below A (ae _)).below N (ae _);have kQ:w.heap.size+1<(i.alloc (gY e b)).heap.size:=aw JB.J;go_wp2_with fail;refine HF.mono ?_;rintro s w3 ⟨rfl,B⟩;have H:=(B.block _ kQ).trans JB.J;have Ga:=(B.block _ (by omega)).trans NT.J;have W:=(B.block _ (by simp)).trans HG.J;have Y:=jl.trans (B.mono jl.size);obtain⟨p0,p1⟩:=aR H;have y0:=bU H 0;have y1:=bU H 1;obtain⟨s0,s1,s2,s3⟩:=eo Ga;obtain⟨g0,g1⟩:=aR W;have ab:=ak H;have al:=ak Ga;have HY:=Rp w3 (uA.below B (ae _));rcases kR with⟨k,j,f⟩|⟨k,f⟩
 (case' inr=>have I:=(show DT (τ (.tuple #[ι κ (0:Nat),χ #[ι κ e,ι κ b]])) (cH cols (.two r a x c))from by simp only[cH,f];exact⟨0,rfl⟩);have R:=Y;rw[show decide (e≠0)=true by simpa using k]);case' inl=>
  subst k;subst j;have hd:decide ((0:Nat)≠0)=false:=rfl;rw[hd];have qW:=ak f;go_wp2_with fail;refine HY.mono ?_;rintro s w4 ⟨hr,Q⟩;obtain⟨k2,e,b,rfl,kR⟩:=yE hr;have a0:=aw W;have ax:=(Q.block _ (aw ab.J)).trans ab.J;have Uz:=(Q.block _ (aw al.J)).trans al.J;have K:=(Q.block _ a0).trans W;have zO:=Y.trans (Q.mono Y.size);have ap:w.heap.size+1≠i.heap.size:=by omega
  have ao:w.heap.size≠i.heap.size:=by omega
  obtain⟨y,u⟩:=nm ((w4.setCell ⟨i.heap.size,0,ν⟩ (ι κ e)).setCell ⟨i.heap.size,1,ν⟩ (ι κ b));have x8:δ w.heap.size w y:=by rw[u];exact(zO.setCell (p:=⟨i.heap.size,0,ν⟩) (by simp;omega) _).setCell (p:=⟨i.heap.size,1,ν⟩) (by simp;omega) _
  have ac:=ak (show y.heap[w.heap.size+1]?=σ (gY 0 0)from by rw[u];exact(ay _ _ _ _ ap).trans ((ay _ _ _ _ ap).trans ax));have am:=ak (show y.heap[w.heap.size]?=σ (obT (fW r) a (.iface E (qG x)) (.iface G (qG c)))from by rw[u];exact(ay _ _ _ _ ao).trans ((ay _ _ _ _ ao).trans Uz));have YZ:=ak (show y.heap[i.heap.size]?=σ (gY e b)from by rw[u];exact aN _ _ 1 _ _ _ (aN _ _ 0 _ _ _ K));have aq:=ry e b y;have ar:=ak u;obtain⟨g0,g1⟩:=aR K;have f0:=bU K 0;have f1:=bU K 1;go_wp2_with fail;rw[<- ar.J];refine aq.mono ?_;rintro s w6 ⟨rfl,M⟩;have O:=(M.block _ (aw ac.J)).trans ac.J;have V3:=(M.block _ (aw am.J)).trans am.J;have Z0:=(M.block _ (aw YZ.J)).trans YZ.J;have T:=x8.trans (M.mono x8.size);obtain⟨p0,p1⟩:=aR O;have y0:=bU O 0;have y1:=bU O 1;obtain⟨s0,s1,s2,s3⟩:=eo V3;obtain⟨g0,g1⟩:=aR Z0;have ad:=ak O;have an:=ak V3;rcases kR with⟨k,j,f⟩|⟨k,f⟩
  (case' inr=>have I:=(show DT (τ (.tuple #[ι κ (0:Nat),χ #[ι κ e,ι κ b]])) (cH cols (.two r a x c))from by simp only[cH,qW.J,f];exact⟨0,rfl⟩);have R:=T;rw[show decide (e≠0)=true by simpa using k]);case' inl=>subst k;subst j;have hd:decide ((0:Nat)≠0)=false:=rfl;rw[hd];have FE:=av.J k1 k2 qW.J f;go_wp2_with fail;refine(HK.J _ _ _).mono ?_;rintro s w7 ⟨rfl,V⟩;have aa:=(V.block _ (aw ad.J)).trans ad.J;have aC:=(V.block _ (aw an.J)).trans an.J;have Rq:=T.trans (V.mono T.size);obtain⟨p0,p1⟩:=aR aa;have y0:=bU aa 0;have y1:=bU aa 1;obtain⟨s0,s1,s2,s3⟩:=eo aC;have R:=Rq;cases ht:kdT (fW r) k1 k2;(case' true=>have I:=(show DT (τ (.tuple #[ι κ (kdK (fW r)),χ #[ι κ 0,ι κ 0]])) (cH cols (.two r a x c))from by rw[FE,ht];rfl));case' false=>have I:=(show DT (τ (.tuple #[ι κ (0:Nat),χ #[ι κ (7:Nat),ι κ a]])) (cH cols (.two r a x c))from by rw[FE,ht];exact⟨0,rfl⟩)
 all_goals(go_wp2_with fail;(try go_region);all_goals((try go_wp2_with fail);refine aB (by simp[results,results323,go_sem,p0,p1];rfl) rfl ?_;exact⟨I,by repeat(first|exact R|refine aH ?_|refine below_drewN ?_ _|refine eX ?_ (by simp) _|refine gS ?_ (by simp;omega) _)⟩))
theorem Z1{cols:List br}{cv:υ}(r:cols.length<=100000):∀(f:Ex),pz f->Fz cols cv f:=by
 intro f
 induction f with
 |num n=>exactλ_ w _=>LN 0 n ⟨#[]⟩ cv w
 |str i=>exactλ_ w _=>LN 1 0 i cv w
 |bool b=>exactλ_ w _=>LN 2 (if b then 1 else 0) ⟨#[]⟩ cv w
 |junk=>exactλ_ w _=>LN 0 0 ⟨#[]⟩ cv w
 |col i a=>exactλ_=>aiG cols cv r i a
 |neg a x e=>exactλc=>aiH (e c)
 |not a x e=>exactλc=>aiI (e c)
 |kG s a x e=>exactλc=>aez (e c)
 |two u a x y j k=>exactλc=>aiM c.1 (j c.2.1) (k c.2.2)
def oF(cols:List br)(e:Ex)(pl:Nat):Nat×Nat:=match cH cols e with|.inr f=>f|.inl k=>if k≠2 then(7,pl)else(0,0)
theorem AW{w:ω}{cols:List br}{cv:υ}{e:Ex}{pl:Nat}(U:pz e)(Q:ew w cv cols)(h5:cols.length<=1000):Calls prog 284 #[χ #[ι κ pl,oL e],cv] w λI w'=>I=τ (χ #[ι κ (oF cols e pl).1,ι κ (oF cols e pl).2])/\δ w.heap.size w w':=by
 obtain⟨u,x9,hm,LL⟩:=pb e;obtain⟨C,k⟩:=nm ((w.alloc (ad5 pl (.iface u (qG e)))).alloc (gY 0 0));have r:=vC k;have hR:C.heap[w.heap.size+1]?=σ (gY 0 0):=(by rw[k];have P:=au (w.alloc (ad5 pl (.iface u (qG e)))) (gY 0 0);rw[show(w.alloc (ad5 pl (.iface u (qG e)))).heap.size=w.heap.size+1 by simp]at P;exact P);have hS:C.heap[w.heap.size]?=σ (ad5 pl (.iface u (qG e))):=by rw[k];exact(dZ _ _ (by simp)).trans (au w _)
 have Z:=Z1 (cols:=cols) (cv:=cv) (by omega) e U C (Q.below r (ae _));have B:=r;have M:=ak hR;have N:=ak hS;have HW:=ak k;obtain⟨ca,ij,hv⟩:=Q.slice;subst hv;rw[x9];go_in;go_wp2_with fail;rw[<- HW.J];refine Z.mono ?_;rintro I f ⟨hr,i⟩;obtain⟨H,c,b,rfl,kR⟩:=yE hr;have T:=(i.block _ (aw M.J)).trans M.J;have K:=(i.block _ (aw N.J)).trans N.J;have V:=aw T;have D:δ f.heap.size f (f.alloc (gY c b)):=(ah _ _).alloc (ae _) _;have O:=ak ((D.block _ V).trans T);have NT:=ak ((D.block _ (aw K)).trans K);have X:=ry c b (f.alloc (gY c b));have Y:=ak (au f (gY c b));have R:=(B.trans (i.mono B.size)).trans (D.mono (ag B.size i.size));have kQ:w.heap.size+1<(f.alloc (gY c b)).heap.size:=aw O.J;go_wp2_with fail;refine X.mono ?_;rintro I w3 ⟨rfl,j⟩;have y:=(j.block _ kQ).trans O.J;have W:=(j.block _ (by omega)).trans NT.J;have Qs:=(j.block _ (by simp)).trans Y.J;have gq:=R.trans (j.mono R.size);obtain⟨p0,p1⟩:=aR y;have y0:=bU y 0;have y1:=bU y 1;obtain⟨s0,s1⟩:=aR W;obtain⟨g0,g1⟩:=aR Qs;rcases kR with⟨E,r,s⟩|⟨E,s⟩
 (case' inr=>have A:Hid (oF cols e pl=(c,b)):=ak (by unfold oF;rw[s]);rw[show decide (c≠0)=true by simpa using E]);(case' inl=>subst E;subst r;rw[show decide ((0:Nat)≠0)=false from rfl];by_cases G:H=2;(case' pos=>have A:Hid (oF cols e pl=(0,0)):=ak (by unfold oF;rw[s,G];rfl);have mK:((H:Int) != 2)=false:=by rw[G];rfl);case' neg=>have A:Hid (oF cols e pl=(7,pl)):=ak (by unfold oF;rw[s];simp[G]);have mK:((H:Int) != 2)=true:=by rw[jA];omega);all_goals(go_wp2_with fail;(try go_region);all_goals((try go_wp2_with fail);refine aB (by simp[results,results284,go_sem,p0,p1];rfl) rfl ?_;exact⟨by rw[A.J];try rfl,by repeat(first|exact gq|refine aH ?_|refine below_drewN ?_ _|refine eX ?_ (by simp) _|refine gS ?_ (by simp;omega) _)⟩))
theorem V6(n:Int)(a:Option Addr)(m c:Nat)(w:ω):Calls prog 314 #[χ #[ι κ n],ψ a m c] w λe w'=>e=τ (.tuple #[ψ a m c,χ #[ι κ 0,ι κ 0]])/\δ w.heap.size w w':=by go_in;go_wp2_with fail;refine aB (v:=_) (by simp[results,results314,go_sem];rfl) rfl ?_;exact⟨rfl,((ah _ _).alloc (ae _) _).alloc (by simp) _⟩
theorem N0(n:Int)(a:Option Addr)(m c:Nat)(w:ω):Calls prog 316 #[χ #[ι κ n],ψ a m c] w λe w'=>e=τ (.tuple #[ψ ν 0 0,χ #[ι κ 2,ι κ n]])/\δ w.heap.size w w':=by go_in;go_wp2_with fail;go_region;all_goals((try go_wp2_with fail);refine aB (v:=_) (by simp[results,results316,go_sem];rfl) rfl ?_;exact⟨rfl,aH (((ah _ _).alloc (ae _) _).alloc (by simp) _)⟩)
theorem V7{w:ω}{cols:List br}{a:Option Addr}{m:Nat}{c:Ex}(E:pz c)(B:ew w (ψ a m i) cols)(I:cols.length<=1000):Calls prog 309 #[χ #[ι κ e,oL c],ψ a m i] w λC w'=>C=τ (.tuple #[ψ a m i,χ #[ι κ (oF cols c e).1,ι κ (oF cols c e).2]])/\δ w.heap.size w w':=by obtain⟨D,N,-⟩:=pb c;obtain⟨O,s⟩:=nm ((w.alloc (obL e (.iface D (qG c)))).alloc (gY 0 0));obtain⟨f,r,-⟩:=fX w (obL e (.iface D (qG c))) (gY 0 0);rw[<- s]at f r;have y:=AW (pl:=e) E (B.below f (ae _)) I;have u:=f;have A:=ak r;have G:=ak s;rw[N]at y ⊢;clear f r s B;go_in;go_wp2_with fail;rw[<- G.J];refine y.mono ?_;rintro C P ⟨rfl,k⟩;have j:=(k.block _ (aw A.J)).trans A.J;obtain⟨K,M⟩:=aR j;have Q:=eR j 0;have R:=eR j 1;have H:=u.trans (k.mono u.size);clear k j;go_wp2_with fail;(try simp only[Exit.inBlock,Exit.then]);refine aB (v:=_) (by simp[results,results309,go_sem,K,M];rfl) rfl ?_;exact⟨rfl,(H.setCell (bE _) _).setCell (bE _) _⟩
theorem Tryz.XQ:(prog.info? 110).map (λc=>(c.zero,c.size,c.bytes))=σ (σ (χ #[θ ByteArray.empty,ι κ 0]),2,24):=by kernel_rfl
theorem Tryz.Py:(prog.info? 168).map (λc=>(c.zero,c.size,c.bytes))=σ (σ (χ #[θ ByteArray.empty,ι κ 0,ι κ 0]),3,32):=by kernel_rfl
theorem Tryz.Tq:(prog.info? 250).map (λc=>(c.zero,c.size,c.bytes))=σ (σ (χ #[ι κ 0,ι κ 0,.bool false,ι κ 0,θ ByteArray.empty]),5,48):=by kernel_rfl
theorem Tryz.Pz:(prog.info? 288).map (λc=>(c.zero,c.size,c.bytes))=σ (σ (χ #[θ ByteArray.empty,ι κ 0,ι κ 0,.nilIface]),4,48):=by kernel_rfl
theorem PA{v:υ}{a:Nat}(e:lenOf s=a+1)(c:lenOf v=a)(f:a<2000):2000 - lenOf s<2000 - lenOf v:=by rw[e,c];omega
section
variable {o:ω×Option Nat} {w w':ω} {p d:Nat} {m:Mode} {L:List It}
theorem Pr.akt(S:Pr o w p d m L):m.len<=400:=by
 obtain⟨x,l,e,-⟩:=S.ex;have:=e.few
 cases m with
 |dead c b=>exact aK _
 |live t f=>
   have c:=bn List.length e.mode.2;rw[bW]at c;show f.length+1<=400;simp at c;omega
theorem Pr.goes(S:Pr o w p d m L)(e:m.is r=true):m.alive/\m.next.len+1=m.len:=by obtain⟨x,l,c,-⟩:=S.ex;exact c.goes e
theorem Pr.append{t:TypeId}{z n bytes:Nat}{B:Option Addr}{xs:List υ}{cs:Array υ}(S:Pr o w p d m (.inr (ψ B n i,k,z,n,xs)::L))
 {A:Array Oper} {rest:List Oper} {c:Oper} {a:Act} {y:Exit->Act->ω->Prop} (I:c.guard=ν) (u x:Operand) (j:c.op=.call { callee:=.builtin .append,args:=#[u,x],argTypes:=#[t,t] })
 (N:prog.underlying t=σ (.slice k)) (E:(prog.info? k).map (λr=>(r.zero,r.size,r.bytes))=σ (σ s,z,bytes)) (Q:s.cells.size=z) (P:0<z) (f:bytes<=1000) (X:n<=1000)
 (M:a.eval u=ψ B n i) (O:a.eval x=ψ (σ ⟨w.heap.size,0,ν⟩) 1 1) (G:cs.size=z) (D:∀W∈cs.toList,W.oneCell'=true)
 (C:∀g cap w',Pr o w' p d m (.inr (ψ (σ ⟨g,0,ν⟩) (n+1) cap,k,z,n+1,xs++cs.toList)::L)->wpList prog A y rest (a.put c.dst (ψ (σ ⟨g,0,ν⟩) (n+1) cap)) w'):wpList prog A y (c::rest) a (w.alloc (ξ cs k)):=by obtain⟨R,K,U,V,T⟩:=iC E;have e:=S.alloc (ξ cs k);refine cJ _ I u x t j o.1.heap.size k R s z bytes N K U V T Q P _ n xs M e.row ⟨w.heap.size,0,ν⟩ 1 1 cs.toList O (by simpa using G) (World.news_of_block (au w (ξ cs k))) D (by decide) (by unfold maxLen;omega) ?_ e.fr.size ?_;{have:(n+1)*bytes<=1001*1000:=lj (by omega) f;omega};intro g cap w' j H f;exact C g cap w' (e.app j H f)
end
def Tr(F p d:Nat){α:Type}(S:Mode->α×Mode)(c:α->List υ)(sh:Array υ->Prop):Prop:=(∀(args:Array υ) (w:ω),Sem.run prog (callFunc F args) w=.ok (.enter F args) w)/\(∀m,(S m).2.len<=m.len)/\
 ∀o w m L,Pr o w p d m L->Calls prog F #[π (σ ⟨p,0,ν⟩)] w λr w'=>∃cs,r=τ (.agg cs)/\sh cs/\Pr o w' p d (S m).2 L/\((S m).2.alive->cs.toList=c (S m).1)
def MR(G T z:Nat)(sh:Array υ->Prop):Prop:=∀(T' z':Nat),T'=T->z'=z->∀{o w p d m L F} {α:Type} {S:Mode->α×Mode} {c:α->List υ},Pr o w p d m L->Tr F p d S c sh->
 Calls prog G #[π (σ ⟨p,0,ν⟩),.func (.func F) #[π (σ ⟨p,0,ν⟩)] #[]] w λr w'=>∃va n vc xs,r=τ (ψ va n vc)/\Pr o w' p d (dc S m).2 (.inr (ψ va n vc,T',z',n,xs)::L)/\((dc S m).2.alive->xs=(dc S m).1.flatMap c)
def sh2(cs:Array υ):Prop:=∃s i,cs=#[θ s,ι κ i]
def sh3(cs:Array υ):Prop:=∃s i j,cs=#[θ s,ι κ i,ι κ j]
def sh4(cs:Array υ):Prop:=∃s i j t v,cs=#[θ s,ι κ i,ι κ j,.iface t v]
def sh5(cs:Array υ):Prop:=∃i j b k s,cs=#[ι κ i,ι κ j,.bool b,ι κ k,θ s]
theorem lists:MR 116 110 2 sh2/\MR 82 168 3 sh3/\
 MR 147 288 4 sh4/\MR 113 250 5 sh5:=by
 refine⟨?_,?_,?_,?_⟩;all_goals
  intro aa z Q T o w p d m L F α S ab U ⟨hE,R,P⟩;obtain⟨q,N,fin⟩:=U.start;have KM:=N.akt;have D3:=R m;go_in;go_wp2_with fail;refine(P _ _ _ _ N).mono ?_;rintro I w1 ⟨cs,rfl,c,X,f⟩;first
   |obtain⟨j,i,rfl⟩:=c
   |obtain⟨j,i,G,rfl⟩:=c
   |obtain⟨j,i,G,t,v,rfl⟩:=c
  have V:=ak f;clear f;go_wp2_with fail;go_loopw[5] (λv wr=>∃(m':Mode) (n:Nat) (xs:List υ) (H:List α) (e:Nat) (s:Option Addr) (u:Nat),v=ψ s n u/\Pr (w,q) wr p d m' [.inr (ψ s n u,aa,z,n,xs)]/\n+m'.len<=401/\m'.len<=e/\Hid (jT S e H m'=dc S m)/\Hid (m'.alive->xs=H.flatMap ab)) (λv _=>2000 - lenOf v);(case atStart=>subst Q T;exact⟨_,1,_,[(S m).1],_,_,_,rfl,(X.new _ _).one rfl,by omega,ae _,ak rfl,ak λD=>by simpa using V.J D⟩);case round=>
   subst Q T;obtain⟨m',n,xs,H,e,s,u,rfl,A,hn,hf,K,M⟩:=hrel;have B:m'.is qa=decide (aU m'.tk=13):=kK (i:=8) A.wf rfl (by decide);obtain⟨r,E⟩:∃r,decide (aU m'.tk=13)=r:=⟨_,rfl⟩;rw[E]at B;have O:=A.GQ 13 r E;have y:=ak B;clear E B;cases r;{go_wp2_with fail;refine O.mono ?_;rintro I w2 ⟨rfl,k⟩;go_wp2_with fail;go_ret;have ac:=(qU y.J).symm.trans K.J;rw[<- ac];exact⟨s,n,u,xs,rfl,fin [_] k,M.J⟩}
   obtain⟨qK,al⟩:=A.goes y.J;obtain⟨C,rfl⟩:∃C,e=C+1:=⟨e - 1,by omega⟩;have uA:=ak (qT K.J y.J);go_wp2_with fail;refine O.mono ?_;rintro I w2 ⟨rfl,k⟩;change Pr _ _ _ _ m'.next _ at k;go_wp2_with fail;refine(P _ _ _ _ k).mono ?_;rintro I w3 ⟨cs,rfl,c,Y,f⟩;have ad:=R m'.next;have W:=ak f;clear f;first
    |obtain⟨j,i,rfl⟩:=c
    |obtain⟨j,i,G,rfl⟩:=c
    |obtain⟨j,i,G,t,v,rfl⟩:=c
   go_wp2_with(at_builtin;refine Y.append rfl _ _ rfl (by first|exact underlying180|exact underlying164|exact underlying285|exact underlying172) (by first|exact Tryz.XQ|exact Tryz.Py|exact Tryz.Pz|exact Tryz.Tq) rfl (by decide) (by decide) (by omega) rfl rfl rfl (by simp[Value.oneCell'];done) ?_;intro g cap w5 Z);go_wp2_with fail;go_roundw;(case rel=>exact⟨_,n+1,_,_,C,_,_,rfl,Z,by omega,by omega,uA,ak λD=>by rw[M.J qK,W.J D];simp⟩);case measure=>exact PA rfl rfl (by omega)
theorem Eu(c:i≠e):((i:Int)==(e:Int))=false:=by rw[aL];omega
def XR(c:Nm×Nat):List υ:=[θ c.1.1,ι κ c.1.2,ι κ c.2]
def Vf(l:List (Nm×Nat)):List υ:=l.flatMap XR
def rS(v:Al):List υ:=[ι κ v.pl,ι κ v.kind,.bool v.null,ι κ v.n,θ v.s]
def BU(l:List Al):List υ:=l.flatMap rS
section
variable {o:ω×Option Nat} {w w':ω} {p d:Nat} {m:Mode} {L:List It}
theorem afR(c:m.tk.wf):qJ m=if aU m.tk=42 then(0,m.next)else if aU m.tk=43 then(1,m.next)else if aU m.tk=44 then(2,m.next)else(2,m.wrong 2):=by unfold qJ Mode.take;rw[show m.is aic=decide (aU m.tk=42)from eM (i:=21) c rfl (by decide),show m.is aid=decide (aU m.tk=43)from eM (i:=22) c rfl (by decide),show m.is Ui=decide (aU m.tk=44)from eM (i:=23) c rfl (by decide)];simp only[decide_eq_true_eq];split;{rfl};split;{rfl};split<;>rfl
theorem Pr.kind(j:Pr o w p d m L):Calls prog 112 #[π (σ ⟨p,0,ν⟩)] w λi w'=>
 ∃B:Nat,i=τ (ι κ B)/\Pr o w' p d (qJ m).2 L/\((qJ m).2.alive->B=(qJ m).1):=by
 obtain⟨q,S,fin⟩:=j.start;have e:=ak (afR j.wf);have s:=S.take;generalize qJ m=R at e ⊢;generalize aU m.tk=c at s e;rcases(show c=42\/c=43\/c=44\/(c≠42/\c≠43/\c≠44)by omega)with rfl|rfl|rfl|⟨u,y,A⟩;all_goals
  (try have D:((c:Int)==42)=false:=Eu u);(try have E:((c:Int)==43)=false:=Eu y);(try have G:((c:Int)==44)=false:=Eu A);go_in;go_wp2_with fail;refine s.mono ?_;rintro i H ⟨rfl,k⟩;go_wp2_with fail
  (try
    (with_reducible refine dQ ((k.alloc _).refuse _ _ _ _) ?_)
    rintro i I ⟨rfl,r⟩;rw[pM]at r;go_wp2_with fail)
  go_ret;first
   |have f:R=(0,m.next):=by exact e.J
   |have f:R=(1,m.next):=by exact e.J
   |have f:R=(2,m.next):=by exact e.J
   |have f:R=(2,m.wrong 2):=e.J.trans (by rw[aE u,aE y,aE A])
  subst f;first
   |exact⟨_,rfl,fin [] r,λC=>absurd C (di m 2)⟩
   |exact⟨_,rfl,fin [] (k.alloc _),λ_=>rfl⟩
end
theorem IJ(p d:Nat):Tr 83 p d tj XR sh3:=⟨call83,λm=>ag (Cn _) (dI m),λo w m L i=>by
 obtain⟨q,S,fin⟩:=i.start;go_in;go_wp2_with fail;refine(S.new #[θ ⟨#[]⟩,ι κ 0,ι κ 0] 168).name.mono ?_;rintro B C ⟨rfl,k⟩;go_wp2_with fail;refine k.kind.mono ?_;rintro B D ⟨s,rfl,c,f⟩;have j:=ak f;clear f;obtain⟨u,y,A⟩:=wS c.box;have z:=c.fz;go_wp2_with fail
 (try simp only[Exit.inBlock,Exit.then])
 refine aB (v:=_) (by simp[results,results83,go_sem,u,y,A];rfl) rfl ?_;refine⟨_,rfl,⟨_,_,_,rfl⟩,fin [] (c.asA _ _ _),λe=>?_⟩;have r:=(nL m).2 (back (Cn _) e);show[Value.string (cM m.tk),ι κ m.place,ι κ s]=XR (m.name.1,(qJ m.name.2).1);rw[<- r,<- j.J e];rfl⟩
def ng(K N:Nat)(T:ByteArray):Nat×Nat×ByteArray×Bool:=
 if K=3 then(0,N,⟨#[]⟩,true)else if K=4 then(1,0,T,true)else if K=40 then(2,1,⟨#[]⟩,true)else if K=41 then(2,0,⟨#[]⟩,true)else(0,0,⟨#[]⟩,false)
theorem Lf(c e B:Nat)(f:ByteArray)(w:ω):Calls prog 143 #[χ #[ι κ c,ι κ B,θ f,ι κ e]] w λC w'=>
 C=τ (.tuple #[ι κ (ng c e f).1,χ #[.bool false,ι κ (ng c e f).2.1,θ (ng c e f).2.2.1],.bool (ng c e f).2.2.2])/\δ w.heap.size w w':=by
 obtain⟨j,r⟩:=nm (ng c e f);rw[<- r];have i:=ak r;clear r;unfold ng at i;rcases(show c=3\/c=4\/c=40\/c=41\/(c≠3/\c≠4/\c≠40/\c≠41)by omega)with rfl|rfl|rfl|rfl|⟨s,u,y,A⟩;all_goals
  (try have D:((c:Int)==3)=false:=Eu s);(try have E:((c:Int)==4)=false:=Eu u);(try have G:((c:Int)==40)=false:=Eu y);(try have H:((c:Int)==41)=false:=Eu A);go_in;go_wp2_with fail;(try go_region);all_goals
   (try go_wp2_with fail);(try simp only[Exit.inBlock,Exit.then]);first
    |have k:j=(0,e,⟨#[]⟩,true):=by exact i.J
    |have k:j=(1,0,f,true):=by exact i.J
    |have k:j=(2,1,⟨#[]⟩,true):=by exact i.J
    |have k:j=(2,0,⟨#[]⟩,true):=by exact i.J
    |have k:j=(0,0,⟨#[]⟩,false):=i.J.trans (by rw[aE s,aE u,aE y,aE A])
   subst k;refine aB (by simp[results,results143,go_sem];rfl) rfl ?_;exact⟨rfl,by first|exact aH (((ah _ _).alloc (ae _) _).alloc (by simp) _)|exact((ah _ _).alloc (ae _) _).alloc (by simp) _⟩
def su(v:Al):Al:={ v with kind:=if v.null then 0 else v.kind }
def BV(m:Mode):Al×Mode:=(su (jk m).1,(jk m).2)
theorem XS{f k:Type}(c:f->k)(one:Mode->f×Mode)(m:Mode):dc (λm=>(c (one m).1,(one m).2)) m=((dc one m).1.map c,(dc one m).2):=by
 have i:∀n l m,jT (λm=>(c (one m).1,(one m).2)) n (l.map c) m=((jT one n l m).1.map c,(jT one n l m).2):=by
  intro n
  induction n with
  |zero=>intro l m;rfl
  |succ n j=>
    intro l m;unfold jT;by_cases e:m.is qa=true
    . rw[aF e,aF e,<- j]
      simp
    . rw[aE e,aE e]
 exact i _ [(one m).1] _
theorem Ts(m:Mode):dc BV m=((dc jk m).1.map su,(dc jk m).2):=XS su jk m
def ab2(m:Mode):List υ×Mode:=
 if aU m.tk=17 then([ι κ m.place,ι κ 0,.bool false,ι κ (-(fR m.next.tk:Int)),θ ⟨#[]⟩],cond (decide (aU m.next.tk=3)) m.next.next (m.next.wrong 2))
 else if aU m.tk=39 then([ι κ m.place,ι κ 0,.bool true,ι κ 0,θ ⟨#[]⟩],m.next)
 else([ι κ m.place,ι κ (ng (aU m.tk) (fR m.tk) (cM m.tk)).1,.bool false,ι κ (ng (aU m.tk) (fR m.tk) (cM m.tk)).2.1,θ (ng (aU m.tk) (fR m.tk) (cM m.tk)).2.2.1],cond (ng (aU m.tk) (fR m.tk) (cM m.tk)).2.2.2 m.next (m.wrong 2))
theorem aku{m:Mode}(j:m.tk.wf):(ab2 m).2=(BV m).2/\((BV m).2.alive->(ab2 m).1=rS (BV m).1):=by have D:m.is p8=decide (aU m.tk=17):=kK (i:=12) j rfl (by decide);have E:m.is Cd=decide (aU m.tk=40):=eM (i:=19) j rfl (by decide);have G:m.is wH=decide (aU m.tk=41):=eM (i:=20) j rfl (by decide);have H:m.is uq=decide (aU m.tk=39):=eM (i:=18) j rfl (by decide);have u:∀m:Mode,¬(m.wrong 2).alive:=λm=>di m 2;have f:(⟨#[]⟩:ByteArray)=ByteArray.empty:=rfl;unfold ab2 BV jk ng;rw[D,E,G,H];obtain⟨c,e⟩:=nm (aU m.tk);rw[<- e];by_cases y:c=17;{simp only[y,decide_true,if_true];obtain⟨K2,i⟩:=nm (aU m.next.tk);rw[<- i];cases hk:m.next.tk<;>rw[hk]at i;(case num n=>simp[i,aU,fR,rS,su,f]);all_goals(have k:¬K2=3:=(by rw[i];simp only[aU];omega);simp[k,u])};simp only[y,decide_false,if_false,Bool.false_eq_true];cases hk:m.tk<;>rw[hk]at e;(case num n=>simp[e,aU,fR,rS,su,f]);(case str s=>simp[e,aU,cM,rS,su]);all_goals(have k:¬c=3:=(by rw[e];simp only[aU];omega);have C:¬c=4:=(by rw[e];simp only[aU];omega);by_cases A:c=39;{simp[A,rS,su,f]};by_cases r:c=40;{simp[r,rS,su,f]};by_cases B:c=41;{simp[B,rS,su,f]};simp[k,C,A,r,B,u])
theorem afS{c:Tk}(e:c.wf):(fR c:Int)<=9223372036854775807:=by
 cases c with
 |num n=>have:n<=9223372036854775807:=e;show(n:Int)<=_;omega
 |_=>show(0:Int)<=_;omega
section
variable {o:ω×Option Nat} {w w':ω} {p d b:Nat} {m:Mode} {L:List It} {t:TypeId}
theorem Pr.NW{x z v:υ}(S:Pr o w p d m (.inl (b,#[x,s,z,c,v],t)::L))(a e f i g:υ):Pr o (((((w.setCell ⟨b,0,ν⟩ a).setCell ⟨b,1,ν⟩ e).setCell ⟨b,2,ν⟩ f).setCell ⟨b,3,ν⟩ i).setCell ⟨b,4,ν⟩ g) p d m (.inl (b,#[a,e,f,i,g],t)::L):=((((S.put 0 a).put 1 e).put 2 f).put 3 i).put 4 g
end
theorem XT(p d:Nat):Tr 114 p d BV rS sh5:=⟨call114,zM,λo w m L U=>by
 obtain⟨q,S,fin⟩:=U.start;have j:=ak (aku U.wf);generalize BV m=V at j ⊢;obtain⟨ab,P⟩:=nm (ab2 m);rw[<- P]at j;have e:=ak P;unfold ab2 at e;have X:=(S.new #[ι κ 0,ι κ 0,.bool false,ι κ 0,θ ⟨#[]⟩] 250).take;have O:=Lf (aU m.tk) (fR m.tk) m.place (cM m.tk);clear P;generalize aU m.tk=c at X e O;generalize ng c (fR m.tk) (cM m.tk)=R at O e;obtain⟨ck,Z,cs,cf⟩:=R;rcases(show c=17\/c=39\/(c≠17/\c≠39)by omega)with k|k|⟨k,h2⟩
 all_goals
  (try have e1:((c:Int)==17)=true:=by rw[k];rfl)
  (try have e1:((c:Int)==17)=false:=Eu (by omega))
  (try have e2:((c:Int)==39)=true:=by rw[k];rfl)
  (try have e2:((c:Int)==39)=false:=Eu (by omega))
  first
   |replace e:=ak (e.J.trans (aF k))
   |replace e:=ak (e.J.trans ((aE (by omega)).trans (aF k)))
   |replace e:=ak (e.J.trans ((aE k).trans (aE h2)))
  clear k;go_in;go_wp2_with fail;refine X.mono ?_;rintro Q T ⟨rfl,r⟩;obtain⟨H,I,K,M,N⟩:=pL r.box;have z:=r.fz;have hl:=r.at;have W:=r.new #[ι κ c,ι κ m.place,θ (cM m.tk),ι κ (fR m.tk)] 106
 . have hn:=afS r.wf
   have KE:IntKind.i64.wrap (-(fR m.next.tk:Int))=-(fR m.next.tk:Int):=by rw[jC];omega
   have hf:=λw=>(vF (aU m.next.tk) m.next.place (cM m.next.tk) (fR m.next.tk) w).2.2;obtain⟨Y,G⟩:=nm (T.alloc (ξ #[ι κ c,ι κ m.place,θ (cM m.tk),ι κ (fR m.tk)] 106 (0,0)));have f:Pr (w,q) Y.drew p d m.next [.inl (T.heap.size,#[ι κ c,ι κ m.place,θ (cM m.tk),ι κ (fR m.tk)],106),.inl (w.heap.size,#[ι κ 0,ι κ 0,.bool false,ι κ 0,θ ⟨#[]⟩],250)]:=by rw[G];exact W.drew
   have aa:=f.must 3 _ rfl;obtain⟨g0,g1,g2,g3⟩:=dm (show Y.heap[T.heap.size]?=_ from f.box);clear H I K M N z;go_wp2_with fail;have HW:=ak G;rw[<- G];clear G;go_region_with(with_reducible refine dQ aa ?_;rintro Q w2 ⟨rfl,E⟩;obtain⟨u0,u1,u2,u3⟩:=dm E.box;obtain⟨H,I,K,M,N⟩:=pL E.drop.box;have z:=E.drop.fz)
   all_goals
    (try go_wp2_with fail)
    have i:=E.drop.NW (ι κ m.place) (ι κ 0) (.bool false) (ι κ (-(fR m.next.tk:Int))) (θ ⟨#[]⟩);generalize World.setCell _ _ _=WF at i ⊢;obtain⟨y,A,B,C,D⟩:=pL i.box
    (try simp only[Exit.inBlock,Exit.then])
    refine aB (by simp[results,results114,go_sem,y,A,B,C,D];rfl) rfl ?_;have s:=e.J;subst s;exact⟨_,rfl,⟨_,_,_,_,_,rfl⟩,j.J.1 ▸ fin [] i,λu=>j.J.2 u⟩
 . go_wp2_with fail
   have i:=(r.NW (ι κ m.place) (ι κ 0) (.bool true) (ι κ 0) (θ ⟨#[]⟩)).alloc (ξ #[ι κ c,ι κ m.place,θ (cM m.tk),ι κ (fR m.tk)] 106);generalize World.alloc (World.setCell _ _ _) _=WF at i ⊢;obtain⟨y,A,B,C,D⟩:=pL i.box
   (try simp only[Exit.inBlock,Exit.then])
   refine aB (by simp[results,results114,go_sem,y,A,B,C,D];rfl) rfl ?_;have s:=e.J;subst s;exact⟨_,rfl,⟨_,_,_,_,_,rfl⟩,j.J.1 ▸ fin [] i,λu=>j.J.2 u⟩
 . go_wp2_with fail
   refine(O _).mono ?_;rintro Q w2 ⟨rfl,hb⟩;have f:=(W.below hb).new #[.bool false,ι κ Z,θ cs] 229;clear H I K M N z;obtain⟨t0,t1,t2,t3⟩:=dm f.drop.box
   cases cf
   case' false=>
    go_wp2_with fail;refine(f.refuse _ _ _ _).mono ?_;rintro Q w3 ⟨rfl,f⟩;rw[pM]at f;clear t0 t1 t2 t3;obtain⟨t0,t1,t2,t3⟩:=dm f.drop.box
   all_goals
    obtain⟨c0,c1,c2⟩:=wS f.box;obtain⟨H,I,K,M,N⟩:=pL f.drop.drop.box;have z:=f.drop.drop.fz;go_wp2_with fail;have i:=f.drop.drop.NW (ι κ m.place) (ι κ ck) (.bool false) (ι κ Z) (θ cs);generalize World.setCell _ _ _=WF at i ⊢;obtain⟨y,A,B,C,D⟩:=pL i.box
    (try simp only[Exit.inBlock,Exit.then])
    refine aB (by simp[results,results114,go_sem,y,A,B,C,D];rfl) rfl ?_;have s:=e.J;subst s;exact⟨_,rfl,⟨_,_,_,_,_,rfl⟩,j.J.1 ▸ fin [] i,λu=>j.J.2 u⟩⟩
def o7(d:Nat)(m:Mode):Mode:=if d=8 then m.wrong 3 else m.next
def Lh(w:ω)(p:Nat):Nat:=
 match w.cell? ⟨p,0,ν⟩,w.cell? (Ad p 1),w.cell? (Ad p 3)with
 |some (.slice _ n _),σ (.int _ q),σ (.int _ e)=>if e=0 then n - q.toNat else 0
 |_,_,_=>0
theorem mN.left{w:ω}{p:Nat}{x:pV}{m:Mode}{l:List Tok}(c:mN w p x m l):Lh w p=m.len:=by
 obtain⟨g,cap,k,A,-⟩:=c.slice;have r:w.cell? (Ad p 0)=σ (ψ (σ (Ad g 0)) l.length cap):=(c.wE.cell 0).trans (by rw[<- k];rfl);have s:w.cell? (Ad p 1)=σ (ι κ x.pos):=c.wE.cell 1;have u:w.cell? (Ad p 3)=σ (ι κ x.e):=c.wE.cell 3;unfold Lh;rw[r,s,u];have f:=c.mode
 cases m with
 |dead B b=>
   obtain⟨i,-,e,-⟩:=f;have:¬((x.e:Int)=0):=by omega
   simp only[this,if_false];rfl
 |live t y=>
   obtain⟨i,j⟩:=f;have:((x.e:Int)=0):=by omega
   have e:=bn List.length j;rw[bW]at e;simp only[this,if_true];simp only[List.length_cons]at e;show l.length - x.pos=y.length+1;exact e
theorem mN.deep{w:ω}{p:Nat}{x:pV}{m:Mode}{l:List Tok}(c:mN w p x m l)(d:Nat):mN (w.setCell (Ad p 2) (ι κ (d:Nat))) p { x with depth:=d } m l:=by
 refine c.put (y:={ x with depth:=d }) 2 _ (by simp[qe]) rfl ?_;have e:=c.mode
 cases m with
 |dead f b=>exact e
 |live t i=>exact e
def PX(F d:Nat)(S:Mode->Ex×Mode):Prop:=∀{o w p m L},Pr o w p d m L->(m.alive->d<=8)->Calls prog F #[π (σ (Ad p 0))] w λr w'=>
 ∃t v,r=τ (.iface t v)/\Pr o w' p d (S m).2 L/\((S m).2.alive->.iface t v=oL (S m).1)
section
variable {o:ω×Option Nat} {w w':ω} {p d d' F:Nat} {m:Mode} {L:List It} {S:Mode->Ex×Mode}
theorem Pr.left(c:Pr o w p d m L):Lh w p=m.len:=by obtain⟨x,l,e,-⟩:=c.ex;exact e.left
theorem Pr.deep(f:Pr o w p d m L)(e:Int)(j:e=d'):Pr o (w.setCell (Ad p 2) (ι κ e)) p d' m L:=by obtain⟨x,l,c,-,i⟩:=f.go;subst j;exact i (c.deep d') rfl (λ_ c=>.inl c) ((aX.pK (ah _ _)).own 2 _)
theorem Pr.acr(e:Pr o w p d m L):w.cell? (Ad p 2)=σ (ι κ d)/\w.frozen? (Ad p 2)=false:=by obtain⟨x,l,c,rfl,-⟩:=e.ex;exact⟨c.wE.cell 2,c.wE.fz 2⟩
theorem Pr.leave(c:Pr o w p (d+1) m L)(r:d<=100):Calls prog 221 #[π (σ (Ad p 0))] w λf w'=>f=τ (.tuple #[])/\Pr o w' p d m L:=by obtain⟨i,j⟩:=c.acr;have k:=c.lt;have e:=c.deep (d':=d) ((d:Int)+1 - 1) (by omega);go_in;go_wp2_with fail;go_end0;exact⟨rfl,by simpa using e⟩
theorem Pr.enter(D:Pr o w p d m L)(R:d<=8):Calls prog 220 #[π (σ (Ad p 0))] w λj w'=>
 j=τ (χ #[ι κ (aU m.tk),ι κ m.place,θ (cM m.tk),ι κ (fR m.tk)])/\Pr o w' p (d+1) (o7 d m) L:=by
 obtain⟨q,S,fin⟩:=D.start;have r:(d=8/\o7 d m=m.wrong 3)\/(d≠8/\o7 d m=m.next):=by unfold o7;by_cases G:d=8<;>simp[G]
 generalize o7 d m=M at r ⊢;go_in;go_wp2_with fail;refine(S.new #[ι κ 0,ι κ 0,θ ⟨#[]⟩,ι κ 0] 106).take.mono ?_;rintro j C ⟨rfl,f⟩;have c:=f.new #[ι κ (aU m.tk),ι κ m.place,θ (cM m.tk),ι κ (fR m.tk)] 106;obtain⟨u,y,A,B⟩:=dm c.box;obtain⟨s,k⟩:=c.acr;have Q:¬(p=w.heap.size):=by have:p<w.heap.size:=f.lo.2;omega
 have O:¬(C.heap.size=p):=by have:=f.lt;omega
 have P:¬(C.heap.size=w.heap.size):=by have:=f.at;omega
 rcases r with⟨e,rfl⟩|⟨e,rfl⟩;(case' inl=>have E:((d:Int)==8)=true:=(by rw[e];rfl);clear e;go_wp2_with fail;refine(c.fail 3 m.place (by decide)).mono ?_;rintro j X ⟨rfl,c⟩;rw[pM]at c;clear u y A B s k;obtain⟨u,y,A,B⟩:=dm c.box;obtain⟨s,k⟩:=c.acr);(case' inr=>have E:((d:Int)==8)=false:=Eu e;clear e);all_goals(obtain⟨T,U,V,W⟩:=dm c.drop.box;have z:=c.drop.fz;go_wp2_with fail;have i:=(c.drop.deep (d':=d+1) ((d:Int)+1) (by omega)).aew (ι κ (aU m.tk)) (ι κ m.place) (θ (cM m.tk)) (ι κ (fR m.tk));generalize World.setCell _ _ _=WF at i ⊢;obtain⟨H,I,K,N⟩:=dm i.box;(try simp only[Exit.inBlock,Exit.then]);refine aB (v:=_) (by simp[results,results220,go_sem,H,I,K,N];try rfl) rfl ?_;exact⟨rfl,fin [] i⟩)
theorem Pr.Vj(V:∀(y:Array υ) (w:ω),Sem.run prog (callFunc F y) w=.ok (.enter F y) w)(M:PX F d S)(D:Pr o w p d m L)(K:m.alive->d<=8)(B:TypeId)(C:υ)(c:Nat)(k:opsL[aU m.tk]?=σ c) :
 Calls prog 170 #[π (σ (Ad p 0)),.iface B C,.func (.func F) #[π (σ (Ad p 0))] #[]] w λr w'=>
 ∃t v,r=τ (.iface 329 (χ #[ι κ c,ι κ m.place,.iface B C,.iface t v]))/\Pr o w' p d (S m.next).2 L/\((S m.next).2.alive->.iface t v=oL (S m.next).1):=by
 obtain⟨q,H,fin⟩:=D.start;have W:(aU m.tk:Int)<37:=by have:=(aj.mp k).1;simp[opsL]at this;omega
 have u:=ak k;clear k;go_in;go_wp2_with fail;refine H.take.mono ?_;rintro r s ⟨rfl,I⟩;obtain⟨j,e⟩:=nm (s.alloc (ξ #[ι κ (aU m.tk),ι κ m.place,θ (cM m.tk),ι κ (fR m.tk)] 106 (0,0)));have f:Pr (w,q) j.drew p d m.next [.inl (s.heap.size,#[ι κ (aU m.tk),ι κ m.place,θ (cM m.tk),ι κ (fR m.tk)],106)]:=by rw[e];exact(I.new _ _).drew
 have G:=M f (λN=>K (GV N));obtain⟨Q,R,T,U⟩:=dm (show j.heap[s.heap.size]?=_ from f.box);have X:j.cell? (Ad 8 (aU m.tk))=σ (ι κ c):=f.aiD _ c u.J;go_wp2_with fail;have P:=ak e;rw[<- e];clear e;go_region_with((with_reducible refine dQ G ?_);rintro r O ⟨t,v,rfl,i,A⟩;obtain⟨Z,u1,u2,u3⟩:=dm i.box;have Y:O.cell? (Ad 8 (aU m.tk))=σ (ι κ c):=i.aiD _ c u.J;have E:=ak A;clear A);all_goals((try go_wp2_with fail);go_ret;exact⟨t,v,rfl,fin [] i,E.J⟩)
theorem Pr.chain(hE:∀(N:Array υ) (w:ω),Sem.run prog (callFunc F N) w=.ok (.enter F N) w)(D:gH S)(P:PX F d S){c:List (ByteArray×Nat)}(hL:GR c)(hn:c.length<=100)(Y:Pr o w p d m L)(O:m.alive->d<=8)(g cap n:Nat)(e:oe w g (c.map (·.2)))(U:g<w.heap.size)(Uq:g≠p)(X:n=(c.map (·.2)).length) :
 Calls prog 145 #[π (σ (Ad p 0)),.func (.func F) #[π (σ (Ad p 0))] #[],ψ (σ (Ad g 0)) n cap] w λk w'=>
 ∃t v,k=τ (.iface t v)/\Pr o w' p d (tg S (c.map (·.1)) m).2 L/\((tg S (c.map (·.1)) m).2.alive->.iface t v=oL (tg S (c.map (·.1)) m).1):=by
 obtain⟨q,ac,fin⟩:=Y.start;have ab:=ak X;have HK:=ak e;clear X e;go_in;go_wp2_with fail;refine(P ac O).mono ?_;rintro k w1 ⟨t1,v1,rfl,P1,R⟩;have Z:=ak R;clear R;go_wp2_with fail;go_loopw[7] (λv wr=>∃(m':Mode) (t:TypeId) (r:υ) (B:Ex) (j:Nat),v=.iface t r/\Pr (w,q) wr p d m' []/\m'.len<=j/\Hid (lY S (c.map (·.1)) j B m'=tg S (c.map (·.1)) m)/\Hid (m'.alive->.iface t r=oL B)/\(m'.alive->m.alive)) (λ_ wr=>Lh wr p);case atStart=>exact⟨_,t1,v1,_,_,rfl,P1,ae _,ak rfl,Z,λf=>D.back f⟩
 case round=>obtain⟨m',t,r,B,j,rfl,i,hf,E,G,Q⟩:=hrel;have s:=GU hL i.wf;have V:=i.left;have I:=HK.J.keep i.fr Uq U;obtain⟨u,e⟩:∃u,decide (aU m'.tk∈c.map (·.2))=u:=⟨_,rfl⟩;have y:=i.Rl (c.map (·.2)) g cap I (by simpa using hn) (ai U i.fr.size) u e;rw[<- ab.J]at y;have HL:=ak V;clear I V;cases u;{have HF:=ak ((Gz (s.2 (by simpa using e))).symm.trans E.J);clear s e;go_wp2_with fail;refine y.mono ?_;rintro k w2 ⟨rfl,A⟩;go_wp2_with fail;go_ret;rw[<- HF.J];exact⟨t,r,rfl,fin [] A,G.J⟩};obtain⟨op,H,W,M⟩:=s.1 (by simpa using e);obtain⟨qK,al⟩:=i.goes M;obtain⟨C,rfl⟩:∃C,j=C+1:=⟨j - 1,by omega⟩;have uA:=ak (Gy E.J H);have xQ:=ak W;clear s e H W M;go_wp2_with fail;refine y.mono ?_;rintro k w2 ⟨rfl,A⟩;go_wp2_with fail;refine(A.Vj hE P (λf=>O (Q f)) t r _ xQ.J).mono ?_;rintro k w3 ⟨t3,v3,rfl,K,T⟩;have aa:=ak T;have ad:=ak K.left;have WQ:=D m'.next;clear T;go_wp2_with fail;go_roundw;(case rel=>refine⟨_,_,_,_,C,rfl,K,by omega,uA,ak λf=>?_,λf=>Q (GV (D.back f))⟩;show _=Value.iface _ (χ #[_,_,oL _,oL _]);rw[<- G.J qK,<- aa.J f]);case measure=>rw[ad.J,HL.J];omega
end
theorem IU(w:ω)(e:List Nat)(a:Array υ)(f:∀c (k:c<e.length),a[c]?=σ (ι κ (e[c]:Nat))):oe (w.alloc (ξ a 104)) w.heap.size e:=λc j=>by
 have i:=au w (ξ a 104);simp only[World.cell?,i];simpa using f c j
theorem acs:GR [(bs [42],18),(bs [47],19),(bs [37],20)]:=λm c q e=>by
 simp only[List.mem_cons,List.not_mem_nil,or_false]at e;rcases e with rfl|rfl|rfl
 . exact⟨kK (i:=13) c rfl (by decide),by decide⟩
 . exact⟨kK (i:=14) c rfl (by decide),by decide⟩
 . exact⟨kK (i:=15) c rfl (by decide),by decide⟩
theorem Yf:GR [(bs [43],16),(bs [45],17)]:=λm e q c=>by
 simp only[List.mem_cons,List.not_mem_nil,or_false]at c;rcases c with rfl|rfl
 . exact⟨kK (i:=11) e rfl (by decide),by decide⟩
 . exact⟨kK (i:=12) e rfl (by decide),by decide⟩
theorem acu:GR [(bs [97,110,100],35)]:=λm e q c=>by
 simp only[List.mem_cons,List.not_mem_nil,or_false]at c;subst c
 . exact⟨eM (i:=14) e rfl (by decide),by decide⟩
theorem TE:GR [(bs [111,114],36)]:=λm e q c=>by
 simp only[List.mem_cons,List.not_mem_nil,or_false]at c;subst c
 . exact⟨eM (i:=15) e rfl (by decide),by decide⟩
theorem acv:GR [(bs [61],8),(bs [60,62],5),(bs [60],9),(bs [60,61],6),(bs [62],10),(bs [62,61],7)]:=λm c q e=>by
 simp only[List.mem_cons,List.not_mem_nil,or_false]at e;rcases e with rfl|rfl|rfl|rfl|rfl|rfl
 . exact⟨kK (i:=3) c rfl (by decide),by decide⟩
 . exact⟨kK (i:=0) c rfl (by decide),by decide⟩
 . exact⟨kK (i:=4) c rfl (by decide),by decide⟩
 . exact⟨kK (i:=1) c rfl (by decide),by decide⟩
 . exact⟨kK (i:=5) c rfl (by decide),by decide⟩
 . exact⟨kK (i:=2) c rfl (by decide),by decide⟩
section
variable {o:ω×Option Nat} {w w':ω} {p d F:Nat} {m:Mode} {L:List It} {S:Mode->Ex×Mode} {sub:Option AK}
theorem Ew(c:m.tk.wf):m.is fG=decide (aU m.tk=12):=kK (i:=7) c rfl (by decide)
theorem IV(c:m.tk.wf):m.is dA=decide (aU m.tk=11):=kK (i:=6) c rfl (by decide)
theorem apb(c:m.tk.wf):m.is uq=decide (aU m.tk=39):=eM (i:=18) c rfl (by decide)
theorem Vk(e:d<=8)(c:(o7 d m).alive):d+1<=8:=by unfold o7 at c;split at c;{exact absurd c (di _ _)};omega
theorem Pr.nested(C:∀(f:Array υ) (w:ω),Sem.run prog (callFunc F f) w=.ok (.enter F f) w)(B:PX F (d+1) S)(r:Pr o w p d m L)(j:d<=8)(i:Nat) :
 Calls prog 195 #[π (σ ⟨p,0,ν⟩),ι κ (i:Nat),.func (.func F) #[π (σ ⟨p,0,ν⟩)] #[]] w λc w'=>
 ∃t v,c=τ (.iface 325 (χ #[ι κ (i:Nat),ι κ m.place,.iface t v]))/\Pr o w' p d (S (o7 d m)).2 L/\((S (o7 d m)).2.alive->.iface t v=oL (S (o7 d m)).1):=by obtain⟨q,u,fin⟩:=r.start;go_in;go_wp2_with fail;refine(u.enter j).mono ?_;rintro c D ⟨rfl,y⟩;go_wp2_with fail;refine(B (y.new _ _) (Vk j)).mono ?_;rintro c E ⟨t,v,rfl,A,k⟩;have s:=ak k;clear k;go_wp2_with fail;refine(A.leave (by omega)).mono ?_;rintro c G ⟨rfl,e⟩;obtain⟨H,I,K,M⟩:=dm e.box;go_wp2_with fail;go_ret;exact⟨t,v,rfl,fin [] e,s.J⟩
theorem Pr.bracket(A:PX 117 (d+1) S)(i:Pr o w p d m L)(e:d<=8):Calls prog 255 #[π (σ ⟨p,0,ν⟩)] w λc w'=>
 ∃t v,c=τ (.iface t v)/\Pr o w' p d ((S (o7 d m)).2.take fG) L/\((S (o7 d m)).2.alive->.iface t v=oL (S (o7 d m)).1):=by obtain⟨q,k,fin⟩:=i.start;go_in;go_wp2_with fail;refine(k.enter e).mono ?_;rintro c B ⟨rfl,r⟩;go_wp2_with fail;refine(A r (Vk e)).mono ?_;rintro c C ⟨t,v,rfl,s,f⟩;have j:=ak f;clear f;go_wp2_with fail;refine(s.sign Ew).mono ?_;rintro c D ⟨rfl,u⟩;go_wp2_with fail;refine(u.leave (by omega)).mono ?_;rintro c E ⟨rfl,y⟩;go_wp2_with fail;go_ret;exact⟨t,v,rfl,fin [] y,j.J⟩
theorem zy(j:yD sub):(PX 251 d (iE sub)->PX 240 d (AL sub))/\(PX 240 d (AL sub)->PX 222 d (ji sub))/\
 (PX 171 d (iK sub)->PX 146 d (AO sub))/\(PX 146 d (AO sub)->PX 117 d (mO sub)):=by
 refine⟨?_,?_,?_,?_⟩;all_goals
  intro i o w p m L u f;obtain⟨q,c,fin⟩:=u.start;have B:=c.lt;first
   |have e:=(c.alloc (ξ #[ι κ 18,ι κ 19,ι κ 20] 104)).chain call251 (gH.turn j) i acs (by decide) f w.heap.size 3 3 (IU w _ _ (λr k=>match r,k with|0,_=>rfl|1,_=>rfl|2,_=>rfl)) (by simp) (by omega) rfl
   |have e:=(c.alloc (ξ #[ι κ 16,ι κ 17] 104)).chain call240 (gH.part j) i Yf (by decide) f w.heap.size 2 2 (IU w _ _ (λr k=>match r,k with|0,_=>rfl|1,_=>rfl)) (by simp) (by omega) rfl
   |have e:=(c.alloc (ξ #[ι κ 35] 104)).chain call171 (gH.Lw j) i acu (by decide) f w.heap.size 1 1 (Rk w 35) (by simp) (by omega) rfl
   |have e:=(c.alloc (ξ #[ι κ 36] 104)).chain call146 (gH.both j) i TE (by decide) f w.heap.size 1 1 (Rk w 36) (by simp) (by omega) rfl
  go_in;go_wp2_with fail;refine e.mono ?_;rintro C D ⟨t,v,rfl,A,s⟩;have y:=ak s;clear s;go_wp2_with fail;go_ret;exact⟨t,v,rfl,fin [] A,y.J⟩
end
theorem acE{l:List UInt8}(i:0<(ByteArray.mk ⟨l⟩).size)(y:eI ⟨⟨l⟩⟩ 0 i≠0):(ByteArray.mk ⟨l⟩).extract 0 (eI ⟨⟨l⟩⟩ 0 i)∈fm:=by
 have r:fm.findIdx (λc=>Lib.hasPrefix l c.data.toList)<fm.length:=by
  apply gJ;intro D;apply y;refine Ks (λe s j=>?_) i;have C:e<fm.length:=(aj.mp j).1;have f:=List.not_of_lt_findIdx (p:=λc=>Lib.hasPrefix l c.data.toList) (xs:=fm) (i:=e) (by omega);have k:fm[e]=s:=(aj.mp j).2;rw[k]at f;simpa using f
 have A:=rY (p:=λ(c:ByteArray)=>Lib.hasPrefix l c.data.toList) (xs:=fm) (w:=r);have u:=GF (k:=fm.findIdx (λc=>Lib.hasPrefix l c.data.toList)) (af r) A (λe s j B=>by
  have f:=List.not_of_lt_findIdx (p:=λc=>Lib.hasPrefix l c.data.toList) (xs:=fm) (i:=e) j;have k:fm[e]'(by omega)=s:=(aj.mp B).2;rw[k]at f;simpa using f) i
 rw[u.1,u.2.1];exact cF r
theorem af3(S:ByteArray)(c:Nat)(e:c<S.size)(j:eI S c e≠0):S.extract c (c+eI S c e)∈fm:=by
 have f:0<(S.extract c S.size).size:=by rw[lD];omega
 have k:=GL S c e f;have i:=vE S c 0 (eI S c e);rw[lQ]at i;rw[<- i,<- k];rw[<- k]at j;exact acE (l:=(S.extract c S.size).data.toList) f j
theorem lex_wf(S:ByteArray)(c:Nat)(e:c<S.size):(fN S c e).1.wf:=by rw[fN];split;{simp only;split;{trivial};split;{rename_i k;obtain⟨r,j,f⟩:=oy.mp k;rw[jE]at f;show _∈cC;rw[f];exact j};trivial};split;{simp only;split;{trivial};rename_i i;show nK _<=_;omega};split;{simp only;split;{split<;>trivial};trivial};simp only;split;{trivial};rename_i i;exact af3 S c e i
theorem af4(S:ByteArray)(e:Nat):∀t∈fM S e,t.k.wf:=by
 induction hn:S.size - e using Nat.strongRecOn generalizing e with
 |_ n j=>
   rw[fM];split
   . rename_i f
     split
     . intro t c
       simp at c;subst c;trivial
     . rename_i i
       have k:=fl S cz e;have r:=(rF S (aS S cz e) f (by simpa using i)).1;intro t c;rcases bF.mp c with rfl|c
       . exact lex_wf S _ f
       . exact j (S.size - (fN S (aS S cz e) f).2) (by omega) _ rfl t c
   . intro t c
     simp at c;subst c;trivial
theorem acF(S:ByteArray)(e:Nat):∀t,(fM S e).getLast?=σ t->t.k.ends=true:=by
 induction hn:S.size - e using Nat.strongRecOn generalizing e with
 |_ n r=>
   rw[fM];split
   . rename_i f
     split
     . intro t c
       simp at c;subst c;rfl
     . rename_i k
       have s:=fl S cz e;have u:=(rF S (aS S cz e) f (by simpa using k)).1;intro t c;have j:=Cc S (fN S (aS S cz e) f).2;rw[List.getLast?_cons]at c
       cases hl:(fM S (fN S (aS S cz e) f).2).getLast? with
       |none=>exact absurd (List.getLast?_eq_none_iff.mp hl) j
       |some i=>
         rw[hl]at c;have:i=t:=by simpa using c
         subst this;exact r (S.size - (fN S (aS S cz e) f).2) (by omega) _ rfl i hl
   . intro t c
     simp at c;subst c;rfl
theorem mN.begin{w:ω}{p:Nat}{S:ByteArray}{v:υ}(i:S.size<=300)(f:Rf w p ⟨v,0,0,0,0⟩)(e:w.ownsRow 0 106 4 v (fM S 0).length (Bs (fM S 0)))(c:v.ownBlock≠σ p):mN w p ⟨v,0,0,0,0⟩ (Mode.of (fM S 0)) (fM S 0):=by
 have j:=C6 S 0 (aK _);refine⟨f,e,c,?_,by omega,af4 S 0,acF S 0⟩
 cases ht:fM S 0 with
 |nil=>exact absurd ht (Cc S 0)
 |cons t k=>exact⟨rfl,rfl⟩
