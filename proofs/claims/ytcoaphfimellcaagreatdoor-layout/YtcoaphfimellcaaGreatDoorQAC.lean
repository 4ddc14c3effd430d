import Derived.Test.YtcoaphfimellcaaGreatDoorQAB
import Derived.Test.YtcoaphfimellcaaGreatDoorProg
import Derived.Test.YtcoaphfimellcaaGreatDoorQAA
import Derived.WalkLawsBesides
set_option maxHeartbeats 0
set_option maxRecDepth 100000
namespace Go.Proofs.YtcoaphfimellcaaGreatDoor
open Go.RowKit
open _root_.Go.Proofs.Tryz
open Option renaming some→σ,none→ν
open Go.IntKind renaming i64→κ
open Go.Ending renaming returned→τ
open Go.Obj renaming cells→ξ
open Go renaming World→ω,Value→υ
open Go.Value renaming int→ι,string→θ,pointer→π
variable{w:ω}{p:ByteArray}{m:Nat}
theorem mV(b c:ByteArray):(b.toList==c.toList)=iZ b c:=by rw[kj,dC,jE,gL,gL];exact⟨λa=>by cases b;cases c;simp at a;rw[a],λa=>by rw[a]⟩
theorem dK(b:ByteArray)(a:List UInt8):(b.toList==a)=iZ b (bs a):=by rw[<- mV,gL (bs a)];rfl
structure fQ where
 S:ByteArray
 pos:Nat
 tk:Nat
 tt:ByteArray
 tp:Nat
 tn:Int
 e:Nat
 bad:Nat
 deep:Nat
 word:υ
 Jp:υ
 Jq:υ
 Jr:υ
 Js:υ
 names:υ
 kinds:υ
 rows:υ
 cond:υ
 eQ:υ
 nodes:υ
def iL(x:fQ):Array υ:=
 #[θ x.S,ι κ x.pos,ι .u8 x.tk,θ x.tt,ι κ x.tp,ι κ x.tn,ι κ x.e,ι κ x.bad,ι κ x.deep,
  x.word,x.Jp,x.Jq,x.Jr,x.Js,x.names,x.kinds,x.rows,x.cond,x.eQ,x.nodes]
def tr(w:ω)(p:Nat)(x:fQ):Prop:=w.heap[p]?=σ (ξ (iL x) 66 (0,0))
theorem tr.cell{p:Nat}{c:fQ}(a:tr w p c)(b:Nat):w.cell? (Ad p b)=(iL c)[b]?:=by unfold tr at a;simp[World.cell?,a]
theorem tr.fz{c:fQ}(a:tr w m c)(b:Nat):w.frozen? (Ad m b)=false:=by unfold tr at a;simp[World.frozen?,a]
theorem tr.lt{b:fQ}(a:tr w m b):m<w.heap.size:=by have:=a.cell 0;exact bz _ _ (this.trans rfl)
theorem tr.jM{a:ω}{b:fQ}(c:tr w m b)(d:a.heap[m]?=w.heap[m]?):tr a m b:=d.trans c
theorem tr.set{c y:fQ}(d:tr w m c)(a:Nat)(b:υ)(e:(iL c).setIfInBounds a b=iL y):tr (w.setCell (Ad m a) b) m y:=by unfold tr;rw[<- e];exact aN w m a _ _ b d
theorem wJ(a:Nat)(d:ω):Calls prog 30 #[ι .u8 a] d λe f=>e=τ (.bool (iI a))/\d=f:=by unfold iI;by_cases g:(97:Int)<=a;{by_cases i:(a:Int)<=122;{go_in;go_wp2;go_ret;have b:97<=a:=(by omega);have c:a<=122:=(by omega);simp[b,c]};go_in;go_wp2;go_ret;have b:97<=a:=(by omega);have c:¬a<=122:=(by omega);simp[b,c]};go_in;go_wp2;go_ret;have b:¬97<=a:=(by omega);simp[b]
theorem DG(a:Nat)(d:ω):Calls prog 31 #[ι .u8 a] d λe f=>e=τ (.bool (kE a))/\d=f:=by unfold kE;by_cases g:(48:Int)<=a;{by_cases i:(a:Int)<=57;{go_in;go_wp2;go_ret;have b:48<=a:=(by omega);have c:a<=57:=(by omega);simp[b,c]};go_in;go_wp2;go_ret;have b:48<=a:=(by omega);have c:¬a<=57:=(by omega);simp[b,c]};go_in;go_wp2;go_ret;have b:¬48<=a:=(by omega);simp[b]
theorem Zs(b:Nat)(a:fQ)(c:ω)(d:tr c b a)(f e:Nat):Calls prog 24 #[π (σ (Ad b 0)),ι κ f,ι κ e] c λj k=>
 j=τ (.tuple #[])/\k=(if a.e=0 then(c.setCell (Ad b 6) (ι κ f)).setCell (Ad b 7) (ι κ e)else c):=by have l:c.cell? (Ad b 6)=σ (ι κ a.e):=d.cell 6;have m:c.cell? (Ad b 7)=σ (ι κ a.bad):=d.cell 7;have n:=d.fz 6;have o:=d.fz 7;by_cases g:a.e=0;{have i:((a.e:Int)==0)=true:=(by rw[dC];omega);rw[aF g];go_in;go_wp2;go_end0;exact⟨rfl,rfl⟩};have i:((a.e:Int)==0)=false:=(by rw[aL];omega);rw[aE g];go_in;go_wp2;go_end0;exact⟨rfl,rfl⟩
def YQ(x:fQ)(t:ByteArray):Bool:=decide (x.e=0)&&(decide (x.tk=119)||decide (x.tk=112))&&iZ x.tt t
theorem aij(e:Nat)(a:fQ)(b:ByteArray)(d:ω)(g:tr d e a):Calls prog 35 #[π (σ (Ad e 0)),θ b] d λk l=>
 k=τ (.bool (YQ a b))/\d=l:=by
 have o:d.cell? (Ad e 6)=σ (ι κ a.e):=g.cell 6;have m:d.cell? (Ad e 2)=σ (ι .u8 a.tk):=g.cell 2;have n:d.cell? (Ad e 3)=σ (θ a.tt):=g.cell 3;go_in;go_wp2
 .rename_i c i;go_ret;refine⟨?_,rfl⟩;have f:(a.tk=119\/a.tk=112):=by omega
  have:YQ a b=(a.tt.toList==b.toList):=by unfold YQ;rw[mV];rcases f with f|f<;>simp[c,f]
  rw[this];rfl
 {rename_i c i j;go_ret;refine⟨?_,rfl⟩;have:YQ a b=(a.tt.toList==b.toList):=(by unfold YQ;rw[mV];simp[c,show a.tk=112 from by omega]);rw[this];rfl};{rename_i c i j;go_ret;refine⟨?_,rfl⟩;have:YQ a b=false:=(by unfold YQ;simp[show¬a.tk=112 from by omega,show¬a.tk=119 from by omega]);rw[this];rfl};rename_i c;go_ret;refine⟨?_,rfl⟩;have:YQ a b=false:=(by unfold YQ;simp[c]);rw[this];rfl
def Laid(w:ω):Prop:=∀i s,(cC.take 27)[i]?=σ s->w.cell? ⟨0,i,ν⟩=σ (θ s)
theorem Zt{i:List ByteArray}:∀(b:Nat),(∀a c,a<b->i[a]?=σ c->iZ c p=false)->(i.take b).any (iZ p)=false:=by intro b j;rw[lP];intro c k;obtain⟨a,d⟩:=dz k;have g:a<b:=(by have:=(aj.mp d).1;simp at this;omega);have e:=j a c g (by rw[gd]at d;simpa[g]using d);intro f;rw[jE]at f;subst f;rw[jX]at e;exact e (jE.mpr rfl)
theorem Nu(c:ByteArray)(f:ω)(n:Laid f):Calls prog 48 #[θ c] f λw y=>w=τ (.bool (cC.any (iZ c)))/\f=y:=by
 have r:=n;clear n;go_in;go_wp2;go_loopw[3] (λi wr=>∃a:Nat,a<=27/\i=ι κ a/\wr=f/\Hid (∀d b,d<a->cC[d]?=σ b->iZ b c=false)) (λi _=>27 - (intOf i).toNat);case atStart=>exact⟨0,by omega,rfl,rfl,ak (λd b v _=>by omega)⟩
 case round=>obtain⟨a,A,rfl,rfl,k⟩:=hrel;by_cases s:a<27;{have B:(a:Int)<27:=(by omega);obtain⟨b,j⟩:∃b,cC[a]?=σ b:=⟨cC[a]'(by show a<28;omega),af _⟩;have z:=r a b (by rw[gd,aF s];exact j);have l:=ak j;clear j;by_cases e:iZ b c=true;{have p:(b.toList==c.toList)=true:=(by rw[mV];exact e);go_wp2;go_ret;refine⟨?_,rfl⟩;have:cC.any (iZ c)=true:=(by rw[oy];exact⟨b,aA l.J,by rw[jE]at e ⊢;exact e.symm⟩);rw[this];rfl};have m:iZ b c=false:=(by simpa using e);have p:(b.toList==c.toList)=false:=(by rw[mV];exact m);go_wp2;go_roundw;(case rel=>refine⟨a+1,by omega,by go_num,by first|rfl|trivial,ak ?_⟩;intro d x v g;by_cases o:d=a;{subst o;have:=l.J;rw[this]at g;cases g;exact m};exact k.J d x (by omega) g);case measure=>simp[intOf];omega};obtain rfl:a=27:=(by omega);go_wp2;go_ret;refine⟨?_,rfl⟩;have t:=Zt 27 k.J;have u:cC=cC.take 27++[bs [109,97,120]]:=rfl;have:cC.any (iZ c)=(c.toList==[109,97,120]):=(by rw[u,List.any_append,t,dK];simp);rw[this];rfl
theorem Bk(b:List UInt8)(a:UInt8):nK (b++[a])=nK b*10+(a.toNat - 48):=by simp[nK]
theorem Zv(a b:List UInt8):nK a<=nK (a++b):=by
 induction b generalizing a with
 |nil=>simp
 |cons c b f=>
   have e:=f (a++[c]);rw[Bk]at e;have d:a++c::b=a++[c]++b:=by simp
   rw[d];omega
def Ch(t:ByteArray):Option Nat:=if 19<t.size\/9223372036854775807<nK t.data.toList then ν else σ (nK t.data.toList)
def Zw(t:ByteArray):υ:=match Ch t with
 |some n=>.tuple #[ι κ n,.bool true]
 |none=>.tuple #[ι κ 0,.bool false]
theorem Ki(a:Ch p=σ m):Zw p=.tuple #[ι κ m,.bool true]:=by unfold Zw;rw[a]
theorem DH(a:Ch p=ν):Zw p=.tuple #[ι κ 0,.bool false]:=by unfold Zw;rw[a]
theorem iq(a:ByteArray):a.data.toList.length=a.size:=dO
theorem Kj(b:ByteArray)(a:Nat)(c:a<b.size):b.data.toList.take (a+1)=b.data.toList.take a++[b[a]]:=by rw[iW (by rw[iq];omega)];rfl
theorem QR(a:ByteArray)(l:ω)(o:∀b (C:b<a.size),dk a[b]=true):Calls prog 49 #[θ a] l λz B=>
 z=τ (Zw a)/\l=B:=by
 by_cases u:19<a.size;{have t:(19:Int)<a.size:=(by omega);have r:Ch a=ν:=(by unfold Ch;rw[aF (.inl u)]);rw[DH r];go_in;go_wp2;go_ret2;exact⟨rfl,rfl⟩};have t:¬(19:Int)<a.size:=by omega
 have s:=ak o;clear o;go_in;go_wp2;go_loopw[4,5] (λA f wr=>∃b c:Nat,b<=a.size/\f=ι κ b/\A=ι κ c/\c<=9223372036854775807/\wr=l/\Hid (c=nK (a.data.toList.take b))) (λ_ f _=>a.size - (intOf f).toNat);case atStart=>exact⟨0,0,by omega,rfl,rfl,by omega,rfl,ak rfl⟩
 case round=>obtain⟨b,c,D,rfl,rfl,r,rfl,d⟩:=hrel;by_cases g:b<a.size;{have E:(b:Int)<a.size:=(by omega);have e:=s.J b g;obtain⟨i,y⟩:=nm (a[b].toNat - 48:Nat);have p:i<=9/\a[b].toNat=48+i:=(by unfold dk kE at e;rw[cP,dt,dt]at e;omega);have m:=ak p;clear p y e;go_wp2;{rename_i x;go_ret2;refine⟨?_,rfl⟩;have w:=m.J;have k:=Kj a b g;have j:=Bk (a.data.toList.take b) a[b];rw[<- k,<- d.J]at j;have v:=Zv (a.data.toList.take (b+1)) (a.data.toList.drop (b+1));rw[gV]at v;have:Ch a=ν:=(by unfold Ch;rw[aF (.inr (by omega))]);rw[DH this];rfl};rename_i x;have w:=m.J;have k:=Kj a b g;have j:=Bk (a.data.toList.take b) a[b];rw[<- k,<- d.J]at j;go_roundw;(case rel=>refine⟨b+1,c*10+i,by omega,by go_num,bn (Value.int IntKind.i64) (by omega),by omega,by first|rfl|trivial,ak ?_⟩;omega);case measure=>simp[intOf];omega};obtain rfl:b=a.size:=(by omega);go_wp2;go_ret2;refine⟨?_,rfl⟩;have:Ch a=σ c:=(by have n:=d.J;rw[aI (by rw[iq];omega)]at n;unfold Ch;rw[<- n,aE (by omega)]);rw[Ki this];rfl
