import Derived.Test.YtcoaphfimellcaaGreatDoorQAP
import Derived.Test.YtcoaphfimellcaaGreatDoorQAQ
set_option maxHeartbeats 0
set_option maxRecDepth 100000
namespace Go.Proofs.YtcoaphfimellcaaGreatDoor
open Go.RowKit
open _root_.Go.Proofs.Tryz
open Option renaming some→σ,none→ν
open Go.IntKind renaming i64→κ
open Go.Ending renaming returned→τ
open Go renaming World→ω
open Go.Value renaming int→ι,string→θ,pointer→π,agg→χ
namespace S
theorem mX(c:Nat->Prop)(e:Nat)(d:List Bool)(a b:Int)(f:ω)(m:Writer c f e d)(j:0<=a)(n:a<18446744073709551616)(k:0<=b)(l:d.length+b.toNat<=1099511627776) :
 Calls prog 210 #[π (σ ⟨e,0,ν⟩),ι .u64 a,ι κ b] f λi g=>i=τ (.tuple #[])/\Writer c g e (d++bitsOf a.toNat b.toNat)/\aX c f g:=by obtain⟨a,rfl⟩:=iw j;obtain⟨b,rfl⟩:=iw k;rw[bN,bN];exact aeJ c e d a b f m (by omega) (by simpa using l)
theorem aaj(a:Int)(c:ω)(b:cK a):Calls prog 335 #[ι κ a] c λd f=>d=τ (ι .u64 (tF a:Int))/\c=f:=by have e:=b;unfold cK at b;obtain⟨g,i⟩:=b;by_cases j:a<0;{go_in;go_wp2;go_ret;exact⟨bn Ending.returned (bn (Value.int IntKind.u64) (aah a e (by omega))),rfl⟩};go_in;go_wp2;go_ret;exact⟨bn Ending.returned (bn (Value.int IntKind.u64) (by unfold tF;rw[aE (by omega)];omega)),rfl⟩
theorem N8(a:Nat->Prop)(c:Nat)(b:List Bool)(e:Bool)(j:ω)(m:Writer a j c b)(l:b.length+1<=1099511627776) :
 Calls prog 342 #[π (σ ⟨c,0,ν⟩),.bool e] j λf d=>f=τ (.tuple #[])/\Writer a d c (b++[e])/\aX a j d:=by have k:=m;cases e;{go_in;go_wp2_with(go_at_call 210;refine(mX a c b _ _ _ k (by omega) (by omega) (by omega) (by simpa using l)).mono ?_;rintro f d ⟨rfl,g,i⟩);go_end0;exact⟨rfl,g,i⟩};go_in;go_wp2_with(go_at_call 210;refine(mX a c b _ _ _ k (by omega) (by omega) (by omega) (by simpa using l)).mono ?_;rintro f d ⟨rfl,g,i⟩);go_end0;exact⟨rfl,g,i⟩
theorem AY(d:Nat->Prop)(f:Nat)(e:List Bool)(a:ByteArray)(c:Int)(i:ω)(s:Writer d i f e)(p:0<=c)(u:c<=64)(y:a.size<=1000)(v:e.length<=549755813888) :
 Calls prog 333 #[π (σ ⟨f,0,ν⟩),θ a,ι κ c] i λm k=>m=τ (.tuple #[])/\Writer d k f (e++jr c.toNat a.data.toList)/\aX d i k:=by
 obtain⟨c,rfl⟩:=iw p;rw[bN];go_in;go_wp2;go_loopw[9] (λj wr=>∃b:Nat,b<=a.size/\j=ι κ b/\Writer d wr f (e++jr c (a.data.toList.take b))/\aX d i wr) (λj _=>a.size - (intOf j).toNat);case atStart=>exact⟨0,aK _,rfl,by simpa[jr]using s,aX.refl _ _⟩
 case round=>obtain⟨b,w,rfl,l,n⟩:=hrel;by_cases t:b<a.size;{have z:(b:Int)<(a.size:Int):=(by omega);go_wp2_with fail;have x:(e++jr c (a.data.toList.take b)).length<=549755813888+64000:=(by rw[az,lE,bV];have:min b a.data.toList.length*c<=1000*64:=lj (by omega) (by omega);omega);rw[JE];refine(mX d f _ _ _ _ l (by omega) (by have:=qA a[b];omega) (by omega) (by rw[bN];omega)).mono ?_;rintro m k ⟨rfl,g,r⟩;have o:=g;go_wp2;go_roundw;(case rel=>refine⟨b+1,by omega,by go_num,?_,n.trans r⟩;have g:=o;simp only[Int.toNat_natCast]at g;rw[iW (by rw[iq];omega),AX,<- cj];exact g);case measure=>simp[intOf];omega};obtain rfl:b=a.size:=(by omega);go_wp2;go_end0;refine⟨rfl,?_,n⟩;have:=l;rwa[aI (by rw[iq];omega)]at this
theorem AZ(b:Nat->Prop)(d:Nat)(e:List Bool)(g:Int)(j:ω)(v:Writer b j d e)(u:cK g)(w:e.length<=549755813888) :
 Calls prog 334 #[π (σ ⟨d,0,ν⟩),ι κ g] j λa i=>a=τ (.tuple #[])/\Writer b i d (e++pA g)/\aX b j i:=by
 have k:=ak u;go_in;go_wp2_with fail;refine(aaj _ _ k.J).mono ?_;rintro a i ⟨rfl,rfl⟩;have t:=yJ k.J;generalize hF:tF g=f at *;have n:=ak hF;go_wp2_with fail;refine(DX _ _ (by omega) (by omega)).mono ?_;rintro a i ⟨rfl,rfl⟩;rw[bN];have x:=mS t;generalize hL:bitLen f=l at *;have o:=ak hL;go_wp2_with fail;refine(mX b d e _ _ _ v (by omega) (by omega) (by omega) (by rw[show Int.toNat 8=8 from rfl];omega)).mono ?_;rintro a y ⟨rfl,p,r⟩;go_wp2_with fail;refine(mX b d _ _ _ _ p (by omega) (by omega) (by omega) (by rw[az,bM,bN];simp;omega)).mono ?_;rintro a z ⟨rfl,c,s⟩;have m:=c;go_wp2;go_end0;refine⟨rfl,?_,r.trans s⟩;have c:=m;rw[bN,bN,cj]at c;unfold pA;rw[n.J,o.J];have a:(((l:Int)+1)).toNat=l+1:=by omega
 rw[a]at c;exact c
theorem yL(a:Nat->Prop)(k:Nat)(l:List Bool)(o:Int)(i:Cl)(d:ω)(u:Writer a d k l)(y:cK i.n)(z:i.s.size<=1000)(f:l.length<=274877906944) :
 Calls prog 330 #[π (σ ⟨k,0,ν⟩),ι κ o,χ #[.bool i.null,ι κ i.n,θ i.s]] d λc A=>c=τ (.tuple #[])/\Writer a A k (l++kN o i)/\aX a d A:=by obtain⟨r,p,g⟩:=i;simp only at y z;have x:=u.alloc (ru r p g);have s:=(aX.refl a d).alloc u.old (ru r p g);have E:=ak y;have D:=u.also (K':=λb=>a b\/b=d.heap.size) (cR d (ru r p g) ν) (λb f=>f.elim .inl (λc=>.inr (by subst c;simp)));cases r;{by_cases t:o=1;{subst t;go_in;go_wp2_with fail;refine(mX (λb=>a b\/b=d.heap.size) k l _ _ _ D (by omega) (by omega) (by omega) (by rw[show Int.toNat 8=8 from rfl];omega)).mono ?_;rintro c v ⟨rfl,j,e⟩;have H:v.cell? ⟨d.heap.size,2,ν⟩=σ (θ g):=(e.cell (p:=⟨d.heap.size,2,ν⟩) (.inr rfl)).trans (by rw[cI _ _ _ _ rfl];rfl);have m:=j;have n:=e.mono (K':=a) (λb f=>.inl f);go_wp2_with fail;refine(AY _ k _ g _ _ m (by omega) (by omega) z (by rw[az,bM];simp;omega)).mono ?_;rintro c I ⟨rfl,j,e⟩;have w:=j.less (K':=a) (λb f=>.inl f);have C:=e.mono (K':=a) (λb f=>.inl f);go_wp2;go_end0;refine⟨rfl,?_,(s.trans n).trans C⟩;have F:((g.size:Int)+1).toNat=g.size+1:=(by omega);rw[F,cj]at w;exact w};have G:(o==1)=false:=(by rw[aL];exact t);have B:=ak t;go_in;go_wp2_with fail;refine(AZ a k l _ _ x E.J (by omega)).mono ?_;rintro c v ⟨rfl,j,e⟩;have m:=j;have n:=e;go_wp2;go_end0;refine⟨rfl,?_,s.trans n⟩;have c:kN o ⟨false,p,g⟩=pA p:=(by unfold kN;rw[aE (by simp),aE B.J]);rw[c];exact m};go_in;go_wp2_with fail;refine(mX a k l _ _ _ x (by omega) (by omega) (by omega) (by rw[show Int.toNat 8=8 from rfl];omega)).mono ?_;rintro c v ⟨rfl,j,e⟩;have m:=j;have n:=e;go_wp2;go_end0;exact⟨rfl,m,s.trans n⟩
end S
