import Derived.Test.YtcoaphfimellcaaGreatDoorFAA
import Derived.Test.YtcoaphfimellcaaGreatDoorProg
set_option maxHeartbeats 0
set_option maxRecDepth 100000
namespace Go.Proofs.YtcoaphfimellcaaGreatDoor
open Go.RowKit
open _root_.Go.Proofs.Tryz
open Option renaming some→σ,none→ν
open Go.IntKind renaming i64→κ
open Go.Ending renaming returned→τ
open Go renaming World→ω,Value→υ
open Go.Value renaming int→ι,string→θ,pointer→π
variable{w:ω}{p:ByteArray}{m:Nat}
theorem nE(b c:ByteArray):(b.toList==c.toList)=jN b c:=by rw[ld,dO,kA,iD,iD];exact⟨λa=>by cases b;cases c;simp at a;rw[a],λa=>by rw[a]⟩
theorem eD(b:ByteArray)(a:List UInt8):(b.toList==a)=jN b (bs a):=by rw[<- nE,iD (bs a)];rfl
structure gO where
 S:ByteArray
 pos:Nat
 tk:Nat
 tt:ByteArray
 tp:Nat
 tn:Int
 e:Nat
 bad:Nat
 deep:Nat
 word:υ
 KU:υ
 KV:υ
 KW:υ
 KX:υ
 names:υ
 kinds:υ
 rows:υ
 cond:υ
 fD:υ
 nodes:υ
def jy(x:gO):Array υ:=
 #[θ x.S,ι κ x.pos,ι .u8 x.tk,θ x.tt,ι κ x.tp,ι κ x.tn,ι κ x.e,ι κ x.bad,ι κ x.deep,
  x.word,x.KU,x.KV,x.KW,x.KX,x.names,x.kinds,x.rows,x.cond,x.fD,x.nodes]
def uA(w:ω)(p:Nat)(x:gO):Prop:=w.heap[p]?=σ (.cells (jy x) 66 (0,0))
theorem uA.cell{p:Nat}{c:gO}(a:uA w p c)(b:Nat):w.cell? (Ad p b)=(jy c)[b]?:=by unfold uA at a;simp[World.cell?,a]
theorem uA.fz{c:gO}(a:uA w m c)(b:Nat):w.frozen? (Ad m b)=false:=by unfold uA at a;simp[World.frozen?,a]
theorem uA.lt{b:gO}(a:uA w m b):m<w.heap.size:=by have:=a.cell 0;exact bA _ _ (this.trans rfl)
theorem uA.kG{a:ω}{b:gO}(c:uA w m b)(d:a.heap[m]?=w.heap[m]?):uA a m b:=d.trans c
theorem uA.set{c y:gO}(d:uA w m c)(a:Nat)(b:υ)(e:(jy c).setIfInBounds a b=jy y):uA (w.setCell (Ad m a) b) m y:=by unfold uA;rw[<- e];exact aQ w m a _ _ b d
theorem xJ(a:Nat)(d:ω):Calls prog 30 #[ι .u8 a] d λe f=>e=τ (.bool (iV a))/\d=f:=by unfold iV;by_cases g:(97:Int)<=a;{by_cases i:(a:Int)<=122;{go_in;go_wp2;go_ret;have b:97<=a:=(by omega);have c:a<=122:=(by omega);simp[b,c]};go_in;go_wp2;go_ret;have b:97<=a:=(by omega);have c:¬a<=122:=(by omega);simp[b,c]};go_in;go_wp2;go_ret;have b:¬97<=a:=(by omega);simp[b]
theorem EF(a:Nat)(d:ω):Calls prog 31 #[ι .u8 a] d λe f=>e=τ (.bool (jP a))/\d=f:=by unfold jP;by_cases g:(48:Int)<=a;{by_cases i:(a:Int)<=57;{go_in;go_wp2;go_ret;have b:48<=a:=(by omega);have c:a<=57:=(by omega);simp[b,c]};go_in;go_wp2;go_ret;have b:48<=a:=(by omega);have c:¬a<=57:=(by omega);simp[b,c]};go_in;go_wp2;go_ret;have b:¬48<=a:=(by omega);simp[b]
theorem abV(b:Nat)(a:gO)(c:ω)(d:uA c b a)(f e:Nat):Calls prog 24 #[π (σ (Ad b 0)),ι κ f,ι κ e] c λj k=>
 j=τ (.tuple #[])/\k=(if a.e=0 then(c.setCell (Ad b 6) (ι κ f)).setCell (Ad b 7) (ι κ e)else c):=by have l:c.cell? (Ad b 6)=σ (ι κ a.e):=d.cell 6;have m:c.cell? (Ad b 7)=σ (ι κ a.bad):=d.cell 7;have n:=d.fz 6;have o:=d.fz 7;by_cases g:a.e=0;{have i:((a.e:Int)==0)=true:=(by rw[dO];omega);rw[aF g];go_in;go_wp2;go_end0;exact⟨rfl,rfl⟩};have i:((a.e:Int)==0)=false:=(by rw[aK];omega);rw[aE g];go_in;go_wp2;go_end0;exact⟨rfl,rfl⟩
def isV(x:gO)(t:ByteArray):Bool:=decide (x.e=0)&&(decide (x.tk=119)||decide (x.tk=112))&&jN x.tt t
theorem ak0(e:Nat)(a:gO)(b:ByteArray)(d:ω)(g:uA d e a):Calls prog 35 #[π (σ (Ad e 0)),θ b] d λk l=>
 k=τ (.bool (isV a b))/\d=l:=by
 have m:d.cell? (Ad e 6)=σ (ι κ a.e):=g.cell 6;have c2:d.cell? (Ad e 2)=σ (ι .u8 a.tk):=g.cell 2;have c3:d.cell? (Ad e 3)=σ (θ a.tt):=g.cell 3;go_in;go_wp2
 .rename_i c i;go_ret;refine⟨?_,rfl⟩;have f:(a.tk=119\/a.tk=112):=by omega
  have:isV a b=(a.tt.toList==b.toList):=by unfold isV;rw[nE];rcases f with f|f<;>simp[c,f]
  rw[this];rfl
 {rename_i c i j;go_ret;refine⟨?_,rfl⟩;have:isV a b=(a.tt.toList==b.toList):=(by unfold isV;rw[nE];simp[c,show a.tk=112 from by omega]);rw[this];rfl};{rename_i c i j;go_ret;refine⟨?_,rfl⟩;have:isV a b=false:=(by unfold isV;simp[show¬a.tk=112 from by omega,show¬a.tk=119 from by omega]);rw[this];rfl};rename_i c;go_ret;refine⟨?_,rfl⟩;have:isV a b=false:=(by unfold isV;simp[c]);rw[this];rfl
def Laid(w:ω):Prop:=∀i s,(cK.take 27)[i]?=σ s->w.cell? ⟨0,i,ν⟩=σ (θ s)
theorem abW{i:List ByteArray}:∀(b:Nat),(∀a c,a<b->i[a]?=σ c->jN c p=false)->(i.take b).any (jN p)=false:=by intro b j;rw[mA];intro c k;obtain⟨a,d⟩:=dK k;have g:a<b:=(by have:=(aj.mp d).1;simp at this;omega);have e:=j a c g (by rw[gi]at d;simpa[g]using d);intro f;rw[kA]at f;subst f;rw[eJ]at e;exact e (kA.mpr rfl)
theorem PK(c:ByteArray)(f:ω)(n:Laid f):Calls prog 48 #[θ c] f λw y=>w=τ (.bool (cK.any (jN c)))/\f=y:=by
 have o:=n;clear n;go_in;go_wp2;go_loopw[3] (λg wr=>∃a:Nat,a<=27/\g=ι κ a/\wr=f/\Hid (∀d b,d<a->cK[d]?=σ b->jN b c=false)) (λg _=>27 - (intOf g).toNat);case atStart=>exact⟨0,by omega,rfl,rfl,au (λd b v _=>by omega)⟩
 case round=>obtain⟨a,A,rfl,rfl,k⟩:=hrel;by_cases s:a<27;{have B:(a:Int)<27:=(by omega);obtain⟨b,i⟩:∃b,cK[a]?=σ b:=⟨cK[a]'(by show a<28;omega),af _⟩;have z:=o a b (by rw[gi,aF s];exact i);have l:=au i;clear i;by_cases e:jN b c=true;{have p:(b.toList==c.toList)=true:=(by rw[nE];exact e);go_wp2;go_ret;refine⟨?_,rfl⟩;have:cK.any (jN c)=true:=(by rw[oZ];exact⟨b,aA l.J,by rw[kA]at e ⊢;exact e.symm⟩);rw[this];rfl};have m:jN b c=false:=(by simpa using e);have p:(b.toList==c.toList)=false:=(by rw[nE];exact m);go_wp2;go_roundw;(case rel=>refine⟨a+1,by omega,by go_num,by first|rfl|trivial,au ?_⟩;intro d x v j;by_cases r:d=a;{subst r;have:=l.J;rw[this]at j;cases j;exact m};exact k.J d x (by omega) j);case measure=>simp[intOf];omega};obtain rfl:a=27:=(by omega);go_wp2;go_ret;refine⟨?_,rfl⟩;have t:=abW 27 k.J;have u:cK=cK.take 27++[bs [109,97,120]]:=rfl;have:cK.any (jN c)=(c.toList==[109,97,120]):=(by rw[u,List.any_append,t,eD];simp);rw[this];rfl
theorem rO(b:List UInt8)(a:UInt8):mN (b++[a])=mN b*10+(a.toNat - 48):=by simp[mN]
theorem abY(a b:List UInt8):mN a<=mN (a++b):=by induction b generalizing a with|nil=>simp|cons c b f=>have e:=f (a++[c]);rw[rO]at e;have d:a++c::b=a++[c]++b:=(by simp);rw[d];omega
def Dn(t:ByteArray):Option Nat:=if 19<t.size\/9223372036854775807<mN t.data.toList then ν else σ (mN t.data.toList)
def abZ(t:ByteArray):υ:=match Dn t with
 |some n=>.tuple #[ι κ n,.bool true]
 |none=>.tuple #[ι κ 0,.bool false]
theorem LS(a:Dn p=σ m):abZ p=.tuple #[ι κ m,.bool true]:=by unfold abZ;rw[a]
theorem EG(a:Dn p=ν):abZ p=.tuple #[ι κ 0,.bool false]:=by unfold abZ;rw[a]
theorem ji(a:ByteArray):a.data.toList.length=a.size:=cW
theorem LU(b:ByteArray)(a:Nat)(c:a<b.size):b.data.toList.take (a+1)=b.data.toList.take a++[b[a]]:=by rw[ft (by rw[ji];omega)];rfl
theorem TI(a:ByteArray)(l:ω)(o:∀b (C:b<a.size),cX a[b]=true):Calls prog 49 #[θ a] l λz B=>
 z=τ (abZ a)/\l=B:=by
 by_cases u:19<a.size;{have t:(19:Int)<a.size:=(by omega);have r:Dn a=ν:=(by unfold Dn;rw[aF (.inl u)]);rw[EG r];go_in;go_wp2;go_ret2;exact⟨rfl,rfl⟩};have t:¬(19:Int)<a.size:=by omega
 have s:=au o;clear o;go_in;go_wp2;go_loopw[4,5] (λA e wr=>∃b c:Nat,b<=a.size/\e=ι κ b/\A=ι κ c/\c<=9223372036854775807/\wr=l/\Hid (c=mN (a.data.toList.take b))) (λ_ e _=>a.size - (intOf e).toNat);case atStart=>exact⟨0,0,by omega,rfl,rfl,by omega,rfl,au rfl⟩
 case round=>obtain⟨b,c,D,rfl,rfl,r,rfl,d⟩:=hrel;by_cases f:b<a.size;{have E:(b:Int)<a.size:=(by omega);have j:=s.J b f;obtain⟨g,y⟩:=nm (a[b].toNat - 48:Nat);have p:g<=9/\a[b].toNat=48+g:=(by unfold cX jP at j;rw[cC,dE,dE]at j;omega);have m:=au p;clear p y j;go_wp2;{rename_i x;go_ret2;refine⟨?_,rfl⟩;have w:=m.J;have k:=LU a b f;have i:=rO (a.data.toList.take b) a[b];rw[<- k,<- d.J]at i;have v:=abY (a.data.toList.take (b+1)) (a.data.toList.drop (b+1));rw[iO]at v;have:Dn a=ν:=(by unfold Dn;rw[aF (.inr (by omega))]);rw[EG this];rfl};rename_i x;have w:=m.J;have k:=LU a b f;have i:=rO (a.data.toList.take b) a[b];rw[<- k,<- d.J]at i;go_roundw;(case rel=>refine⟨b+1,c*10+g,by omega,by go_num,a7 (Value.int IntKind.i64) (by omega),by omega,by first|rfl|trivial,au ?_⟩;omega);case measure=>simp[intOf];omega};obtain rfl:b=a.size:=(by omega);go_wp2;go_ret2;refine⟨?_,rfl⟩;have:Dn a=σ c:=(by have n:=d.J;rw[aL (by rw[ji];omega)]at n;unfold Dn;rw[<- n,aE (by omega)]);rw[LS this];rfl
namespace S
theorem Tryz.ajC:(prog.info? 5).map (λa=>(a.zero,a.size,a.bytes))=σ (σ (ι .u8 0),1,1):=by kernel_rfl
theorem ag9(g:Nat->Prop)(e:Nat)(m:List Bool)(f p:Nat)(o:ω)(C:Writer g o e m)(hv:f<18446744073709551616)(hb:m.length+p<=1099511627776) :
 Calls prog 210 #[π (σ ⟨e,0,ν⟩),ι .u64 (f:Int),ι κ (p:Int)] o λaa U=>aa=τ (.tuple #[])/\Writer g U e (m++bitsOf f p)/\aY g o U:=by
 have⟨i0,hi,lU,lV,lk⟩:=info_parts Tryz.ajC;go_in;go_wp2;go_loopw[8] (λA wr=>∃c:Nat,c<=p/\A=ι κ c/\Writer g wr e (m++bitsOf f c)/\aY g o wr) (λA _=>p - (intOf A).toNat);case atStart=>exact⟨0,aI _,rfl,by simpa[Qo]using C,aY.refl _ _⟩
 case round=>
  obtain⟨c,hk,rfl,⟨sv,bs,d⟩,G⟩:=hrel;by_cases cQ:c<p
  .have⟨a,j⟩:=nm ((m++bitsOf f c).length);have am:a<=1099511627776:=(by rw[j,aw,bP];omega);have fin:∀(l:ω) (i T k:Nat) (z:List Nat),xX g l e i T k z (m++bitsOf f c)->aY g o l->∀old:Nat,old=z.getD (a / 8) 0->old<256->
    Writer g ((l.setCell ⟨i,a / 8,ν⟩ (ι .u8 (bits BinOp.or IntKind.u8 (old:Int) (bits BinOp.and IntKind.u64 ((f:Int) / 2 ^ min c 64) 1 % 256*2 ^ (a % 8) % 256)))).setCell ⟨e,1,ν⟩ (ι κ ((a:Int)+1))).drew e (m++bitsOf f (c+1))/\
    aY g o ((l.setCell ⟨i,a / 8,ν⟩ (ι .u8 (bits BinOp.or IntKind.u8 (old:Int) (bits BinOp.and IntKind.u64 ((f:Int) / 2 ^ min c 64) 1 % 256*2 ^ (a % 8) % 256)))).setCell ⟨e,1,ν⟩ (ι κ ((a:Int)+1))).drew:=by
    intro l i T k z Q D old ho ab;refine⟨?_,Q.keeps D _ _ _⟩;rw[Qp,<- bN];subst j;exact Q.done (f.testBit c) _ (by rw[Y0 old f c _ ab hv,ho]) _ (by omega)
   have K:=au fin;have L:=au j;have x:=d;by_cases B:a % 8=0
   .have t8:((a:Int) % 8==0)=true:=(by rw[dO];omega);have u:=d.used;rw[<- j]at u;have y:=d.sl;have H:=d.f0;have I:=d.f1;have al:bs.length<=1099511627776:=(by rw[d.lays.len,<- j];omega);have t:=au (d.own.alloc (.cells #[ι .u8 0] 5));clear d C fin j;have an:e<wr.heap.size:=bA _ _ y;go_wp2_with(at_builtin;refine cP _ rfl (.tmp 21) (.tmp 22) 68 rfl 0 5 i0 (ι .u8 0) 1 1 underlying68 hi lU lV lk rfl (by decide) _ _ _ rfl t.J ⟨wr.heap.size,0,ν⟩ 1 1 [ι .u8 0] rfl rfl ?c1 ?c2 (by decide) ?c3 ?c4 (aI _) ?_);case c1=>intro ac ad v;match ac,v with|0,v=>simp at v;subst v;simp[Addr.add]
    (case c2=>intro ad R;simp at R;subst R;rfl);(case c3=>unfold maxLen;omega);(case c4=>omega);intro i k w1 N O P;have⟨M,c0,e0,b⟩:=x.grown (by rw[<- L.J];exact B) N O (by simpa using P);have⟨s,E,F,n⟩:=b.cell;have X:=b.used;have R0:=b.sl;have G0:=b.f0;have G1:=b.f1;rw[<- L.J]at s E F n X;have Y:=b.apart;have w:=b;have V:=(G.trans M).setCell (p:=⟨e,0,ν⟩) b.kp (.slice (σ ⟨i,0,ν⟩) (bs.length+1) k);clear N O P b M t y u H I;go_wp2_with fail;generalize w1.setCell ⟨e,0,ν⟩ (.slice (σ ⟨i,0,ν⟩) (bs.length+1) k)=l at *;have D:aY g o l:=V;have⟨old,hold⟩:=nm ((bs++[0]).getD (a / 8) 0);rw[<- hold]at s n;have W:=au hold;clear hold c0 e0;have Z:(a:Int) / 8<((bs.length+1:Nat):Int):=(by omega);have hq:((a:Int) / 8).toNat=a / 8:=(by omega);go_region;go_wp2;go_roundw;(case rel=>have r:=K.J l i _ k (bs++[0]) w D old W.J n;rw[B,Int.pow_zero,Int.mul_one,Int.emod_emod]at r;exact⟨c+1,by omega,by go_num,r.1,r.2⟩);case measure=>simp[intOf];omega
   have t8:((a:Int) % 8==0)=false:=(by rw[aK];omega);obtain⟨i,k,rfl,b⟩:=d.room (by rw[<- j];exact B);have⟨s,E,F,n⟩:=b.cell;have u:=b.used;have y:=b.sl;have H:=b.f0;have I:=b.f1;rw[<- j]at s E F n u;have Y:=b.apart;have w:=b;clear d C fin j b;have⟨old,hold⟩:=nm (bs.getD (a / 8) 0);rw[<- hold]at s n;have t:=au hold;clear hold;have Z:(a:Int) / 8<(bs.length:Int):=(by omega);have hq:((a:Int) / 8).toNat=a / 8:=(by omega);go_wp2_with fail;go_region;go_wp2;go_roundw;(case rel=>have r:=K.J wr i _ k bs w G old t.J n;exact⟨c+1,by omega,by go_num,r.1,r.2⟩);case measure=>simp[intOf];omega
  obtain rfl:c=p:=(by omega);have x:=d;clear d;go_wp2;go_end0;exact⟨rfl,⟨_,_,x⟩,G⟩
end S
namespace S
theorem rU(b:Nat)(c:Int)(a:Nat)(e:a=c.toNat / 2 ^ b)(g:a≠0)(f:a<256)(j:b<=56):wrap64 ((b:Int)+wrap64 ((bitLen a:Nat):Int))=((bitLen c.toNat:Nat):Int):=by have i:=bitLen_le8 a f;have d:=bitLen_shift c.toNat b (by rw[<- e];exact g);rw[<- e]at d;rw[d];unfold wrap64;omega
theorem Uh(a:Nat)(b:a<256):wrap64 (wrap64 ((bitLen a:Nat):Int))=((bitLen a:Nat):Int):=by have c:=bitLen_le8 a b;unfold wrap64;omega
theorem EV(a:Int)(b:ω)(e:0<=a)(f:a<18446744073709551616) :
 Calls prog 235 #[ι .u64 a] b λc d=>c=τ (ι κ (bitLen a.toNat:Int))/\b=d:=by
 go_in;go_wp2;all_goals(go_ret;refine⟨a7 Ending.returned (a7 (Value.int IntKind.i64) ?_),rfl⟩)
 all_goals rw[len8tab_get]
 all_goals first
  |exact rU 56 a _ (by omega) (by omega) (by omega) (by omega)
  |exact rU 48 a _ (by omega) (by omega) (by omega) (by omega)
  |exact rU 40 a _ (by omega) (by omega) (by omega) (by omega)
  |exact rU 32 a _ (by omega) (by omega) (by omega) (by omega)
  |exact rU 24 a _ (by omega) (by omega) (by omega) (by omega)
  |exact rU 16 a _ (by omega) (by omega) (by omega) (by omega)
  |exact rU 8 a _ (by omega) (by omega) (by omega) (by omega)
  |exact Uh _ (by omega)
end S
namespace S
theorem nG(c:Nat->Prop)(e:Nat)(d:List Bool)(a b:Int)(f:ω)(m:Writer c f e d)(j:0<=a)(n:a<18446744073709551616)(k:0<=b)(l:d.length+b.toNat<=1099511627776) :
 Calls prog 210 #[π (σ ⟨e,0,ν⟩),ι .u64 a,ι κ b] f λi g=>i=τ (.tuple #[])/\Writer c g e (d++bitsOf a.toNat b.toNat)/\aY c f g:=by obtain⟨a,rfl⟩:=jm j;obtain⟨b,rfl⟩:=jm k;rw[bQ,bQ];exact ag9 c e d a b f m (by omega) (by simpa using l)
theorem acJ(a:Int)(c:ω)(b:cR a):Calls prog 335 #[ι κ a] c λd f=>d=τ (ι .u64 (uJ a:Int))/\c=f:=by have e:=b;unfold cR at b;obtain⟨g,i⟩:=b;by_cases j:a<0;{go_in;go_wp2;go_ret;exact⟨a7 Ending.returned (a7 (Value.int IntKind.u64) (acH a e (by omega))),rfl⟩};go_in;go_wp2;go_ret;exact⟨a7 Ending.returned (a7 (Value.int IntKind.u64) (by unfold uJ;rw[aE (by omega)];omega)),rfl⟩
theorem Qv(a:Nat->Prop)(c:Nat)(b:List Bool)(e:Bool)(j:ω)(m:Writer a j c b)(l:b.length+1<=1099511627776) :
 Calls prog 342 #[π (σ ⟨c,0,ν⟩),.bool e] j λf d=>f=τ (.tuple #[])/\Writer a d c (b++[e])/\aY a j d:=by have k:=m;cases e;{go_in;go_wp2_with(go_at_call 210;refine(nG a c b _ _ _ k (by omega) (by omega) (by omega) (by simpa using l)).mono ?_;rintro f d ⟨rfl,g,i⟩);go_end0;exact⟨rfl,g,i⟩};go_in;go_wp2_with(go_at_call 210;refine(nG a c b _ _ _ k (by omega) (by omega) (by omega) (by simpa using l)).mono ?_;rintro f d ⟨rfl,g,i⟩);go_end0;exact⟨rfl,g,i⟩
theorem BX(d:Nat->Prop)(f:Nat)(e:List Bool)(a:ByteArray)(c:Int)(i:ω)(s:Writer d i f e)(p:0<=c)(u:c<=64)(y:a.size<=1000)(v:e.length<=549755813888) :
 Calls prog 333 #[π (σ ⟨f,0,ν⟩),θ a,ι κ c] i λm k=>m=τ (.tuple #[])/\Writer d k f (e++jZ c.toNat a.data.toList)/\aY d i k:=by
 obtain⟨c,rfl⟩:=jm p;rw[bQ];go_in;go_wp2;go_loopw[9] (λj wr=>∃b:Nat,b<=a.size/\j=ι κ b/\Writer d wr f (e++jZ c (a.data.toList.take b))/\aY d i wr) (λj _=>a.size - (intOf j).toNat);case atStart=>exact⟨0,aI _,rfl,by simpa[jZ]using s,aY.refl _ _⟩
 case round=>obtain⟨b,w,rfl,l,n⟩:=hrel;by_cases t:b<a.size;{have z:(b:Int)<(a.size:Int):=(by omega);go_wp2_with fail;have x:(e++jZ c (a.data.toList.take b)).length<=549755813888+64000:=(by rw[aw,lZ,bV];have:min b a.data.toList.length*c<=1000*64:=lL (by omega) (by omega);omega);rw[Lc];refine(nG d f _ _ _ _ l (by omega) (by have:=q8 a[b];omega) (by omega) (by rw[bQ];omega)).mono ?_;rintro m k ⟨rfl,g,r⟩;have o:=g;go_wp2;go_roundw;(case rel=>refine⟨b+1,by omega,by go_num,?_,n.trans r⟩;have g:=o;simp only[Int.toNat_natCast]at g;rw[ft (by rw[ji];omega),BW,<- bN];exact g);case measure=>simp[intOf];omega};obtain rfl:b=a.size:=(by omega);go_wp2;go_end0;refine⟨rfl,?_,n⟩;have:=l;rwa[aL (by rw[ji];omega)]at this
theorem BZ(b:Nat->Prop)(d:Nat)(e:List Bool)(g:Int)(j:ω)(v:Writer b j d e)(u:cR g)(w:e.length<=549755813888) :
 Calls prog 334 #[π (σ ⟨d,0,ν⟩),ι κ g] j λa i=>a=τ (.tuple #[])/\Writer b i d (e++qc g)/\aY b j i:=by
 have k:=au u;go_in;go_wp2_with fail;refine(acJ _ _ k.J).mono ?_;rintro a i ⟨rfl,rfl⟩;have t:=zL k.J;generalize hF:uJ g=f at *;have n:=au hF;go_wp2_with fail;refine(EV _ _ (by omega) (by omega)).mono ?_;rintro a i ⟨rfl,rfl⟩;rw[bQ];have x:=nC t;generalize hL:bitLen f=l at *;have o:=au hL;go_wp2_with fail;refine(nG b d e _ _ _ v (by omega) (by omega) (by omega) (by rw[show Int.toNat 8=8 from rfl];omega)).mono ?_;rintro a y ⟨rfl,p,r⟩;go_wp2_with fail;refine(nG b d _ _ _ _ p (by omega) (by omega) (by omega) (by rw[aw,bP,bQ];simp;omega)).mono ?_;rintro a z ⟨rfl,c,s⟩;have m:=c;go_wp2;go_end0;refine⟨rfl,?_,r.trans s⟩;have c:=m;rw[bQ,bQ,bN]at c;unfold qc;rw[n.J,o.J];have a:(((l:Int)+1)).toNat=l+1:=by omega
 rw[a]at c;exact c
theorem zM(a:Nat->Prop)(k:Nat)(l:List Bool)(o:Int)(i:Cl)(d:ω)(u:Writer a d k l)(y:cR i.n)(z:i.s.size<=1000)(f:l.length<=274877906944) :
 Calls prog 330 #[π (σ ⟨k,0,ν⟩),ι κ o,.agg #[.bool i.null,ι κ i.n,θ i.s]] d λc A=>c=τ (.tuple #[])/\Writer a A k (l++ly o i)/\aY a d A:=by obtain⟨r,p,g⟩:=i;simp only at y z;have x:=u.alloc (si r p g);have s:=(aY.refl a d).alloc u.old (si r p g);have E:=au y;have D:=u.also (K':=λb=>a b\/b=d.heap.size) (dh d (si r p g) ν) (λb f=>f.elim .inl (λc=>.inr (by subst c;simp)));cases r;{by_cases t:o=1;{subst t;go_in;go_wp2_with fail;refine(nG (λb=>a b\/b=d.heap.size) k l _ _ _ D (by omega) (by omega) (by omega) (by rw[show Int.toNat 8=8 from rfl];omega)).mono ?_;rintro c v ⟨rfl,j,e⟩;have H:v.cell? ⟨d.heap.size,2,ν⟩=σ (θ g):=(e.cell (p:=⟨d.heap.size,2,ν⟩) (.inr rfl)).trans (by rw[cM _ _ _ _ rfl];rfl);have m:=j;have n:=e.mono (K':=a) (λb f=>.inl f);go_wp2_with fail;refine(BX _ k _ g _ _ m (by omega) (by omega) z (by rw[aw,bP];simp;omega)).mono ?_;rintro c I ⟨rfl,j,e⟩;have w:=j.less (K':=a) (λb f=>.inl f);have C:=e.mono (K':=a) (λb f=>.inl f);go_wp2;go_end0;refine⟨rfl,?_,(s.trans n).trans C⟩;have F:((g.size:Int)+1).toNat=g.size+1:=(by omega);rw[F,bN]at w;exact w};have G:(o==1)=false:=(by rw[aK];exact t);have B:=au t;go_in;go_wp2_with fail;refine(BZ a k l _ _ x E.J (by omega)).mono ?_;rintro c v ⟨rfl,j,e⟩;have m:=j;have n:=e;go_wp2;go_end0;refine⟨rfl,?_,s.trans n⟩;have c:ly o ⟨false,p,g⟩=qc p:=(by unfold ly;rw[aE (by simp),aE B.J]);rw[c];exact m};go_in;go_wp2_with fail;refine(nG a k l _ _ _ x (by omega) (by omega) (by omega) (by rw[show Int.toNat 8=8 from rfl];omega)).mono ?_;rintro c v ⟨rfl,j,e⟩;have m:=j;have n:=e;go_wp2;go_end0;exact⟨rfl,m,s.trans n⟩
end S
