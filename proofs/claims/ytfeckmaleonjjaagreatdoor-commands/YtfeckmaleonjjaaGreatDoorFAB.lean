import Derived.Test.YtfeckmaleonjjaaGreatDoorFAA
import Derived.Test.YtfeckmaleonjjaaGreatDoorProg
set_option maxHeartbeats 0
set_option maxRecDepth 100000
namespace Go.Proofs.YtfeckmaleonjjaaGreatDoor
open List renaming length→Λ
open Go.RowKit
open _root_.Go.Proofs.Tryz
open Option renaming some→σ,none→ν
open Go.IntKind renaming i64→κ
open Go.Ending renaming returned→τ
open Go renaming World→ω,Value→υ
open Go.Value renaming int→ι,string→θ,pointer→π
variable{w:ω}{p:Γ}{m:Nat}
theorem iZ(b c:Γ):(b.toList==c.toList)=ct b c:=by rw[jt,dR,cD,ja,ja];exact⟨λa=>by cases b;cases c;simp at a;rw[a],λa=>by rw[a]⟩
theorem bX(b:Γ)(a:Δ UInt8):(b.toList==a)=ct b (bs a):=by rw[<- iZ,ja (bs a)];rfl
structure gN where
 S:Γ
 pos:Nat
 tk:Nat
 tt:Γ
 tp:Nat
 tn:Int
 e:Nat
 bad:Nat
 deep:Nat
 cU:υ
 Bs:υ
 Bt:υ
 Gp:υ
 Gq:υ
 bJ:υ
 kinds:υ
 ry:υ
 cond:υ
 oF:υ
 gp:υ
def mM(x:gN):Array υ:=
 #[θ x.S,ι κ x.pos,ι .u8 x.tk,θ x.tt,ι κ x.tp,ι κ x.tn,ι κ x.e,ι κ x.bad,ι κ x.deep,
  x.cU,x.Bs,x.Bt,x.Gp,x.Gq,x.bJ,x.kinds,x.ry,x.cond,x.oF,x.gp]
def uO(w:ω)(p:Nat)(x:gN):Prop:=w.heap[p]?=σ (.cells (mM x) 63 (0,0))
theorem uO.cell{p:Nat}{c:gN}(a:uO w p c)(b:Nat):w.cell? (Ad p b)=(mM c)[b]?:=by unfold uO at a;simp[World.cell?,a]
theorem uO.fz{c:gN}(a:uO w m c)(b:Nat):w.frozen? (Ad m b)=false:=by unfold uO at a;simp[World.frozen?,a]
theorem uO.lt{b:gN}(a:uO w m b):m<w.heap.size:=by have:=a.cell 0;exact bT _ _ (this.trans rfl)
theorem uO.kY{a:ω}{b:gN}(c:uO w m b)(d:a.heap[m]?=w.heap[m]?):uO a m b:=d.trans c
theorem uO.set{x y:gN}(b:uO w m x)(i:Nat)(a:υ)(c:(mM x).setIfInBounds i a=mM y):uO (w.setCell (Ad m i) a) m y:=by unfold uO;rw[<- c];exact bq w m i _ _ a b
theorem yb(a:Nat)(d:ω):Calls prog 28 #[ι .u8 a] d λe f=>e=τ (.bool (jO a))/\d=f:=by unfold jO;by_cases g:(97:Int)<=a;{by_cases i:(a:Int)<=122;{go_in;go_wp2;go_ret;have b:97<=a:=(by omega);have c:a<=122:=(by omega);simp[b,c]};go_in;go_wp2;go_ret;have b:97<=a:=(by omega);have c:¬a<=122:=(by omega);simp[b,c]};go_in;go_wp2;go_ret;have b:¬97<=a:=(by omega);simp[b]
theorem EU(a:Nat)(d:ω):Calls prog 29 #[ι .u8 a] d λe f=>e=τ (.bool (lK a))/\d=f:=by unfold lK;by_cases g:(48:Int)<=a;{by_cases i:(a:Int)<=57;{go_in;go_wp2;go_ret;have b:48<=a:=(by omega);have c:a<=57:=(by omega);simp[b,c]};go_in;go_wp2;go_ret;have b:48<=a:=(by omega);have c:¬a<=57:=(by omega);simp[b,c]};go_in;go_wp2;go_ret;have b:¬48<=a:=(by omega);simp[b]
theorem aaX(b:Nat)(a:gN)(c:ω)(d:uO c b a)(f e:Nat):Calls prog 19 #[π (σ (Ad b 0)),ι κ f,ι κ e] c λi j=>
 i=τ (.tuple #[])/\j=(if a.e=0 then(c.setCell (Ad b 6) (ι κ f)).setCell (Ad b 7) (ι κ e)else c):=by have l:c.cell? (Ad b 6)=σ (ι κ a.e):=d.cell 6;have m:c.cell? (Ad b 7)=σ (ι κ a.bad):=d.cell 7;have n:=d.fz 6;have o:=d.fz 7;by_cases g:a.e=0;{have k:((a.e:Int)==0)=true:=(by rw[dR];omega);rw[aN g];go_in;go_wp2;go_end0;exact⟨rfl,rfl⟩};have k:((a.e:Int)==0)=false:=(by rw[aY];omega);rw[aH g];go_in;go_wp2;go_end0;exact⟨rfl,rfl⟩
def isV(x:gN)(t:Γ):Bool:=decide (x.e=0)&&(decide (x.tk=119)||decide (x.tk=112))&&ct x.tt t
theorem ai3(e:Nat)(a:gN)(b:Γ)(d:ω)(g:uO d e a):Calls prog 33 #[π (σ (Ad e 0)),θ b] d λk l=>
 k=τ (.bool (isV a b))/\d=l:=by
 have o:d.cell? (Ad e 6)=σ (ι κ a.e):=g.cell 6;have m:d.cell? (Ad e 2)=σ (ι .u8 a.tk):=g.cell 2;have n:d.cell? (Ad e 3)=σ (θ a.tt):=g.cell 3;go_in;go_wp2
 .rename_i c i;go_ret;refine⟨?_,rfl⟩;have f:(a.tk=119\/a.tk=112):=by omega
  have:isV a b=(a.tt.toList==b.toList):=by unfold isV;rw[iZ];rcases f with f|f<;>simp[c,f]
  rw[this];rfl
 {rename_i c i j;go_ret;refine⟨?_,rfl⟩;have:isV a b=(a.tt.toList==b.toList):=(by unfold isV;rw[iZ];simp[c,show a.tk=112 from by omega]);rw[this];rfl};{rename_i c i j;go_ret;refine⟨?_,rfl⟩;have:isV a b=false:=(by unfold isV;simp[show¬a.tk=112 from by omega,show¬a.tk=119 from by omega]);rw[this];rfl};rename_i c;go_ret;refine⟨?_,rfl⟩;have:isV a b=false:=(by unfold isV;simp[c]);rw[this];rfl
def Laid(w:ω):Prop:=∀i s,(cY.take 27)[i]?=σ s->w.cell? ⟨0,i,ν⟩=σ (θ s)
theorem aaY{i:Δ Γ}:∀(b:Nat),(∀a c,a<b->i[a]?=σ c->ct c p=false)->(i.take b).any (ct p)=false:=by intro b j;rw[jh];intro c k;obtain⟨a,d⟩:=cB k;have g:a<b:=(by have:=(ah.mp d).1;simp at this;omega);have e:=j a c g (by rw[dL]at d;simpa[g]using d);intro f;rw[cD]at f;subst f;rw[lz]at e;exact e (cD.mpr rfl)
theorem O7(c:Γ)(f:ω)(n:Laid f):Calls prog 52 #[θ c] f λv x=>v=τ (.bool (cY.any (ct c)))/\f=x:=by
 have p:=n;clear n;go_in;go_wp2;go_loopw[3] (λi wr=>∃a:Nat,a<=27/\i=ι κ a/\wr=f/\Hid (∀d b,d<a->cY[d]?=σ b->ct b c=false)) (λi _=>27 - (intOf i).toNat);case atStart=>exact⟨0,by omega,rfl,rfl,ak (λd b u _=>by omega)⟩
 case round=>obtain⟨a,B,rfl,rfl,k⟩:=hrel;by_cases r:a<27;{have z:(a:Int)<27:=(by omega);obtain⟨b,j⟩:∃b,cY[a]?=σ b:=⟨cY[a]'(by show a<28;omega),af _⟩;have A:=p a b (by rw[dL,aN r];exact j);have l:=ak j;clear j;by_cases e:ct b c=true;{have y:(b.toList==c.toList)=true:=(by rw[iZ];exact e);go_wp2;go_ret;refine⟨?_,rfl⟩;have:cY.any (ct c)=true:=(by rw[kM];exact⟨b,aq l.J,by rw[cD]at e ⊢;exact e.symm⟩);rw[this];rfl};have m:ct b c=false:=(by simpa using e);have y:(b.toList==c.toList)=false:=(by rw[iZ];exact m);go_wp2;go_roundw;(case rel=>refine⟨a+1,by omega,by go_num,by first|rfl|trivial,ak ?_⟩;intro d w u g;by_cases o:d=a;{subst o;have:=l.J;rw[this]at g;cases g;exact m};exact k.J d w (by omega) g);case measure=>simp[intOf];omega};obtain rfl:a=27:=(by omega);go_wp2;go_ret;refine⟨?_,rfl⟩;have s:=aaY 27 k.J;have t:cY=cY.take 27++[bs [109,97,120]]:=rfl;have:cY.any (ct c)=(c.toList==[109,97,120]):=(by rw[t,zu,s,bX];simp);rw[this];rfl
theorem Co(b:Δ UInt8)(a:UInt8):oK (b++[a])=oK b*10+(a.toNat - 48):=by simp[oK]
theorem aaZ(a b:Δ UInt8):oK a<=oK (a++b):=by induction b generalizing a with|nil=>simp|cons c b f=>have e:=f (a++[c]);rw[Co]at e;have d:a++c::b=a++[c]++b:=(by simp);rw[d];omega
def Dx(t:Γ):Option Nat:=if 19<t.size\/9223372036854775807<oK t.data.toList then ν else σ (oK t.data.toList)
def aa0(t:Γ):υ:=match Dx t with
 |some n=>.tuple #[ι κ n,.bool true]
 |none=>.tuple #[ι κ 0,.bool false]
theorem Ly(a:Dx p=σ m):aa0 p=.tuple #[ι κ m,.bool true]:=by unfold aa0;rw[a]
theorem EW(a:Dx p=ν):aa0 p=.tuple #[ι κ 0,.bool false]:=by unfold aa0;rw[a]
theorem jC(a:Γ):Λ a.data.toList=a.size:=dF
theorem Lz(b:Γ)(a:Nat)(c:a<b.size):b.data.toList.take (a+1)=b.data.toList.take a++[b[a]]:=by rw[jU (by rw[jC];omega)];rfl
theorem Tc(a:Γ)(l:ω)(o:∀b (D:b<a.size),dV a[b]=true):Calls prog 53 #[θ a] l λz B=>
 z=τ (aa0 a)/\l=B:=by
 by_cases u:19<a.size;{have t:(19:Int)<a.size:=(by omega);have r:Dx a=ν:=(by unfold Dx;rw[aN (.inl u)]);rw[EW r];go_in;go_wp2;go_ret2;exact⟨rfl,rfl⟩};have t:¬(19:Int)<a.size:=by omega
 have s:=ak o;clear o;go_in;go_wp2;go_loopw[4,5] (λA e wr=>∃b c:Nat,b<=a.size/\e=ι κ b/\A=ι κ c/\c<=9223372036854775807/\wr=l/\Hid (c=oK (a.data.toList.take b))) (λ_ e _=>a.size - (intOf e).toNat);case atStart=>exact⟨0,0,by omega,rfl,rfl,by omega,rfl,ak rfl⟩
 case round=>obtain⟨b,c,E,rfl,rfl,r,rfl,d⟩:=hrel;by_cases f:b<a.size;{have C:(b:Int)<a.size:=(by omega);have j:=s.J b f;obtain⟨g,y⟩:=nm (a[b].toNat - 48:Nat);have p:g<=9/\a[b].toNat=48+g:=(by unfold dV lK at j;rw[cH,dY,dY]at j;omega);have m:=ak p;clear p y j;go_wp2;{rename_i x;go_ret2;refine⟨?_,rfl⟩;have w:=m.J;have k:=Lz a b f;have i:=Co (a.data.toList.take b) a[b];rw[<- k,<- d.J]at i;have v:=aaZ (a.data.toList.take (b+1)) (a.data.toList.drop (b+1));rw[kD]at v;have:Dx a=ν:=(by unfold Dx;rw[aN (.inr (by omega))]);rw[EW this];rfl};rename_i x;have w:=m.J;have k:=Lz a b f;have i:=Co (a.data.toList.take b) a[b];rw[<- k,<- d.J]at i;go_roundw;(case rel=>refine⟨b+1,c*10+g,by omega,by go_num,bI (Value.int IntKind.i64) (by omega),by omega,by first|rfl|trivial,ak ?_⟩;omega);case measure=>simp[intOf];omega};obtain rfl:b=a.size:=(by omega);go_wp2;go_ret2;refine⟨?_,rfl⟩;have:Dx a=σ c:=(by have n:=d.J;rw[aQ (by rw[jC];omega)]at n;unfold Dx;rw[<- n,aH (by omega)]);rw[Ly this];rfl
namespace S
theorem Tryz.aip:(prog.info? 5).map (λa=>(a.zero,a.size,a.bytes))=σ (σ (ι .u8 0),1,1):=by kernel_rfl
theorem agd(f:Nat->Prop)(d:Nat)(m:Δ Bool)(e p:Nat)(o:ω)(C:eL f o d m)(hv:e<18446744073709551616)(hb:Λ m+p<=1099511627776) :
 Calls prog 203 #[π (σ ⟨d,0,ν⟩),ι .u64 (e:Int),ι κ (p:Int)] o λab U=>ab=τ (.tuple #[])/\eL f U d (m++eu e p)/\bu f o U:=by
 have⟨i0,hi,lB,ll,kV⟩:=info_parts Tryz.aip;go_in;go_wp2;go_loopw[8] (λA wr=>∃c:Nat,c<=p/\A=ι κ c/\eL f wr d (m++eu e c)/\bu f o wr) (λA _=>p - (intOf A).toNat);case atStart=>exact⟨0,aB _,rfl,by simpa[Qp]using C,bu.refl _ _⟩
 case round=>
  obtain⟨c,hk,rfl,⟨sv,bs,W⟩,G⟩:=hrel;by_cases cK:c<p
  .have⟨a,i⟩:=nm ((m++eu e c).length);have al:a<=1099511627776:=(by rw[i,au,cA];omega);have fin:∀(k:ω) (g T j:Nat) (z:Δ Nat),yw f k d g T j z (m++eu e c)->bu f o k->∀old:Nat,old=z.getD (a / 8) 0->old<256->
    eL f ((k.setCell ⟨g,a / 8,ν⟩ (ι .u8 (bits BinOp.or IntKind.u8 (old:Int) (bits BinOp.and IntKind.u64 ((e:Int) / 2 ^ min c 64) 1 % 256*2 ^ (a % 8) % 256)))).setCell ⟨d,1,ν⟩ (ι κ ((a:Int)+1))).drew d (m++eu e (c+1))/\
    bu f o ((k.setCell ⟨g,a / 8,ν⟩ (ι .u8 (bits BinOp.or IntKind.u8 (old:Int) (bits BinOp.and IntKind.u64 ((e:Int) / 2 ^ min c 64) 1 % 256*2 ^ (a % 8) % 256)))).setCell ⟨d,1,ν⟩ (ι κ ((a:Int)+1))).drew:=by
    intro k g T j z O D old ho ac;refine⟨?_,O.keeps D _ _ _⟩;rw[Qq,<- cC];subst i;exact O.done (e.testBit c) _ (by rw[YA old e c _ ac hv,ho]) _ (by omega)
   have K:=ak fin;have L:=ak i;have x:=W;by_cases B:a % 8=0
   .have t8:((a:Int) % 8==0)=true:=(by rw[dR];omega);have u:=W.used;rw[<- i]at u;have y:=W.sl;have H:=W.f0;have I:=W.f1;have ai:Λ bs<=1099511627776:=(by rw[W.lays.len,<- i];omega);have t:=ak (W.own.alloc (.cells #[ι .u8 0] 5));clear W C fin i;have am:d<wr.heap.size:=bT _ _ y;go_wp2_with(at_builtin;refine mb _ rfl (.tmp 21) (.tmp 22) 252 rfl 0 5 i0 (ι .u8 0) 1 1 underlying252 hi lB ll kV rfl (by decide) _ _ _ rfl t.J ⟨wr.heap.size,0,ν⟩ 1 1 [ι .u8 0] rfl rfl ?c1 ?c2 (by decide) ?c3 ?c4 (aB _) ?_);case c1=>intro ad ag v;match ad,v with|0,v=>simp at v;subst v;simp[Addr.add]
    (case c2=>intro ag Q;simp at Q;subst Q;rfl);(case c3=>unfold maxLen;omega);(case c4=>omega);intro g j w1 M N R;have⟨P,c0,e0,b⟩:=x.grown (by rw[<- L.J];exact B) M N (by simpa using R);have⟨s,E,F,n⟩:=b.cell;have Z:=b.used;have R0:=b.sl;have G0:=b.f0;have G1:=b.f1;rw[<- L.J]at s E F n Z;have Y:=b.apart;have w:=b;have X:=(G.trans P).setCell (p:=⟨d,0,ν⟩) b.kp (.slice (σ ⟨g,0,ν⟩) (Λ bs+1) j);clear M N R b P t y u H I;go_wp2;generalize w1.setCell ⟨d,0,ν⟩ (.slice (σ ⟨g,0,ν⟩) (Λ bs+1) j)=k at *;have D:bu f o k:=X;have⟨old,l⟩:=nm ((bs++[0]).getD (a / 8) 0);rw[<- l]at s n;have V:=ak l;clear l c0 e0;have aa:(a:Int) / 8<((Λ bs+1:Nat):Int):=(by omega);have hq:((a:Int) / 8).toNat=a / 8:=(by omega);go_region;go_wp2;go_roundw;(case rel=>have r:=K.J k g _ j (bs++[0]) w D old V.J n;rw[B,Int.pow_zero,Int.mul_one,Int.emod_emod]at r;exact⟨c+1,by omega,by go_num,r.1,r.2⟩);case measure=>simp[intOf];omega
   have t8:((a:Int) % 8==0)=false:=(by rw[aY];omega);obtain⟨g,j,rfl,b⟩:=W.room (by rw[<- i];exact B);have⟨s,E,F,n⟩:=b.cell;have u:=b.used;have y:=b.sl;have H:=b.f0;have I:=b.f1;rw[<- i]at s E F n u;have Y:=b.apart;have w:=b;clear W C fin i b;have⟨old,l⟩:=nm (bs.getD (a / 8) 0);rw[<- l]at s n;have t:=ak l;clear l;have aa:(a:Int) / 8<(Λ bs:Int):=(by omega);have hq:((a:Int) / 8).toNat=a / 8:=(by omega);go_wp2;go_region;go_wp2;go_roundw;(case rel=>have r:=K.J wr g _ j bs w G old t.J n;exact⟨c+1,by omega,by go_num,r.1,r.2⟩);case measure=>simp[intOf];omega
  obtain rfl:c=p:=(by omega);have x:=W;clear W;go_wp2;go_end0;exact⟨rfl,⟨_,_,x⟩,G⟩
end S
namespace S
theorem sK(b:Nat)(c:Int)(a:Nat)(e:a=c.toNat / 2 ^ b)(g:a≠0)(f:a<256)(j:b<=56):wrap64 ((b:Int)+wrap64 ((bitLen a:Nat):Int))=((bitLen c.toNat:Nat):Int):=by have i:=bitLen_le8 a f;have d:=bitLen_shift c.toNat b (by rw[<- e];exact g);rw[<- e]at d;rw[d];unfold wrap64;omega
theorem Um(a:Nat)(b:a<256):wrap64 (wrap64 ((bitLen a:Nat):Int))=((bitLen a:Nat):Int):=by have c:=bitLen_le8 a b;unfold wrap64;omega
theorem Ff(a:Int)(b:ω)(e:0<=a)(f:a<18446744073709551616) :
 Calls prog 233 #[ι .u64 a] b λc d=>c=τ (ι κ (bitLen a.toNat:Int))/\b=d:=by
 go_in;go_wp2;all_goals(go_ret;refine⟨bI Ending.returned (bI (Value.int IntKind.i64) ?_),rfl⟩)
 all_goals rw[len8tab_get]
 all_goals first
  |exact sK 56 a _ (by omega) (by omega) (by omega) (by omega)
  |exact sK 48 a _ (by omega) (by omega) (by omega) (by omega)
  |exact sK 40 a _ (by omega) (by omega) (by omega) (by omega)
  |exact sK 32 a _ (by omega) (by omega) (by omega) (by omega)
  |exact sK 24 a _ (by omega) (by omega) (by omega) (by omega)
  |exact sK 16 a _ (by omega) (by omega) (by omega) (by omega)
  |exact sK 8 a _ (by omega) (by omega) (by omega) (by omega)
  |exact Um _ (by omega)
end S
namespace S
theorem oe(c:Nat->Prop)(e:Nat)(d:Δ Bool)(a b:Int)(f:ω)(m:eL c f e d)(j:0<=a)(n:a<18446744073709551616)(k:0<=b)(l:Λ d+b.toNat<=1099511627776) :
 Calls prog 203 #[π (σ ⟨e,0,ν⟩),ι .u64 a,ι κ b] f λi g=>i=τ (.tuple #[])/\eL c g e (d++eu a.toNat b.toNat)/\bu c f g:=by obtain⟨a,rfl⟩:=jI j;obtain⟨b,rfl⟩:=jI k;rw[cm,cm];exact agd c e d a b f m (by omega) (by simpa using l)
theorem acv(a:Int)(c:ω)(b:dK a):Calls prog 346 #[ι κ a] c λd f=>d=τ (ι .u64 (uU a:Int))/\c=f:=by have e:=b;unfold dK at b;obtain⟨g,i⟩:=b;by_cases j:a<0;{go_in;go_wp2;go_ret;exact⟨bI Ending.returned (bI (Value.int IntKind.u64) (acs a e (by omega))),rfl⟩};go_in;go_wp2;go_ret;exact⟨bI Ending.returned (bI (Value.int IntKind.u64) (by unfold uU;rw[aH (by omega)];omega)),rfl⟩
theorem Qw(a:Nat->Prop)(c:Nat)(b:Δ Bool)(e:Bool)(j:ω)(m:eL a j c b)(l:Λ b+1<=1099511627776) :
 Calls prog 353 #[π (σ ⟨c,0,ν⟩),.bool e] j λf d=>f=τ (.tuple #[])/\eL a d c (b++[e])/\bu a j d:=by have k:=m;cases e;{go_in;go_wp2_with(go_at_call 203;refine(oe a c b _ _ _ k (by omega) (by omega) (by omega) (by simpa using l)).mono ?_;rintro f d ⟨rfl,g,i⟩);go_end0;exact⟨rfl,g,i⟩};go_in;go_wp2_with(go_at_call 203;refine(oe a c b _ _ _ k (by omega) (by omega) (by omega) (by simpa using l)).mono ?_;rintro f d ⟨rfl,g,i⟩);go_end0;exact⟨rfl,g,i⟩
theorem B1(d:Nat->Prop)(f:Nat)(e:Δ Bool)(a:Γ)(c:Int)(i:ω)(t:eL d i f e)(r:0<=c)(v:c<=64)(z:a.size<=1000)(w:Λ e<=549755813888) :
 Calls prog 344 #[π (σ ⟨f,0,ν⟩),θ a,ι κ c] i λm k=>m=τ (.tuple #[])/\eL d k f (e++kB c.toNat a.data.toList)/\bu d i k:=by
 obtain⟨c,rfl⟩:=jI r;rw[cm];go_in;go_wp2;go_loopw[9] (λj wr=>∃b:Nat,b<=a.size/\j=ι κ b/\eL d wr f (e++kB c (a.data.toList.take b))/\bu d i wr) (λj _=>a.size - (intOf j).toNat);case atStart=>exact⟨0,aB _,rfl,by simpa[kB]using t,bu.refl _ _⟩
 case round=>obtain⟨b,x,rfl,l,n⟩:=hrel;by_cases p:b<a.size;{have u:=aX.2 p;go_wp21;have y:(e++kB c (a.data.toList.take b)).length<=549755813888+64000:=(by rw[au,mO,bZ];have:min b (Λ a.data.toList)*c<=1000*64:=jr (by omega) (by omega);omega);rw[KS];refine(oe d f _ _ _ _ l (by omega) (by have:=rV a[b];omega) (by omega) (by rw[cm];omega)).mono ?_;rintro m k ⟨rfl,g,s⟩;have o:=g;go_wp2;go_roundw;(case rel=>refine⟨b+1,by omega,by go_num,?_,n.trans s⟩;have g:=o;simp only[Int.toNat_natCast]at g;rw[jU (by rw[jC];omega),B0,<- cC];exact g);case measure=>simp[intOf];omega};obtain rfl:b=a.size:=(by omega);go_wp2;go_end0;refine⟨rfl,?_,n⟩;have:=l;rwa[aQ (by rw[jC];omega)]at this
theorem B3(b:Nat->Prop)(d:Nat)(e:Δ Bool)(g:Int)(j:ω)(v:eL b j d e)(u:dK g)(w:Λ e<=549755813888) :
 Calls prog 345 #[π (σ ⟨d,0,ν⟩),ι κ g] j λa i=>a=τ (.tuple #[])/\eL b i d (e++qG g)/\bu b j i:=by
 have k:=ak u;go_in;go_wp21;refine(acv _ _ k.J).mono ?_;rintro a i ⟨rfl,rfl⟩;have t:=Ah k.J;generalize hF:uU g=f at *;have n:=ak hF;go_wp21;refine(Ff _ _ (by omega) (by omega)).mono ?_;rintro a i ⟨rfl,rfl⟩;rw[cm];have x:=nT t;generalize hL:bitLen f=l at *;have o:=ak hL;go_wp21;refine(oe b d e _ _ _ v (by omega) (by omega) (by omega) (by rw[show Int.toNat 8=8 from rfl];omega)).mono ?_;rintro a y ⟨rfl,p,r⟩;go_wp21;refine(oe b d _ _ _ _ p (by omega) (by omega) (by omega) (by rw[au,cA,cm];simp;omega)).mono ?_;rintro a z ⟨rfl,c,s⟩;have m:=c;go_wp2;go_end0;refine⟨rfl,?_,r.trans s⟩;have c:=m;rw[cm,cm,cC]at c;unfold qG;rw[n.J,o.J];have a:(((l:Int)+1)).toNat=l+1:=by omega
 rw[a]at c;exact c
theorem Ai(a:Nat->Prop)(k:Nat)(l:Δ Bool)(o:Int)(i:Cl)(d:ω)(u:eL a d k l)(y:dK i.n)(z:i.s.size<=1000)(f:Λ l<=274877906944) :
 Calls prog 341 #[π (σ ⟨k,0,ν⟩),ι κ o,.agg #[.bool i.bH,ι κ i.n,θ i.s]] d λc A=>c=τ (.tuple #[])/\eL a A k (l++lM o i)/\bu a d A:=by obtain⟨r,p,g⟩:=i;simp only at y z;have x:=u.alloc (zc r p g);have s:=(bu.refl a d).alloc u.old (zc r p g);have E:=ak y;have D:=u.also (K':=λb=>a b\/b=d.heap.size) (dG d (zc r p g) ν) (λb f=>f.elim .inl (λc=>.inr (by subst c;simp)));cases r;{by_cases t:o=1;{subst t;go_in;go_wp21;refine(oe (λb=>a b\/b=d.heap.size) k l _ _ _ D (by omega) (by omega) (by omega) (by rw[show Int.toNat 8=8 from rfl];omega)).mono ?_;rintro c v ⟨rfl,j,e⟩;have H:v.cell? ⟨d.heap.size,2,ν⟩=σ (θ g):=(e.cell (p:=⟨d.heap.size,2,ν⟩) (.inr rfl)).trans (by rw[dj _ _ _ _ rfl];rfl);have m:=j;have n:=e.mono (K':=a) (λb f=>.inl f);go_wp21;refine(B1 _ k _ g _ _ m (by omega) (by omega) z (by rw[au,cA];simp;omega)).mono ?_;rintro c I ⟨rfl,j,e⟩;have w:=j.less (K':=a) (λb f=>.inl f);have C:=e.mono (K':=a) (λb f=>.inl f);go_wp2;go_end0;refine⟨rfl,?_,(s.trans n).trans C⟩;have F:((g.size:Int)+1).toNat=g.size+1:=(by omega);rw[F,cC]at w;exact w};have G:(o==1)=false:=(by rw[aY];exact t);have B:=ak t;go_in;go_wp21;refine(B3 a k l _ _ x E.J (by omega)).mono ?_;rintro c v ⟨rfl,j,e⟩;have m:=j;have n:=e;go_wp2;go_end0;refine⟨rfl,?_,s.trans n⟩;have c:lM o ⟨false,p,g⟩=qG p:=(by unfold lM;rw[aH (by simp),aH B.J]);rw[c];exact m};go_in;go_wp21;refine(oe a k l _ _ _ x (by omega) (by omega) (by omega) (by rw[show Int.toNat 8=8 from rfl];omega)).mono ?_;rintro c v ⟨rfl,j,e⟩;have m:=j;have n:=e;go_wp2;go_end0;exact⟨rfl,m,s.trans n⟩
end S
