import Derived.Test.YtcoaphfimellcaaGreatDoorQAT
import Derived.Test.YtcoaphfimellcaaGreatDoorQAG
set_option maxHeartbeats 0
set_option maxRecDepth 100000
namespace Go.Proofs.YtcoaphfimellcaaGreatDoor
open Go.RowKit
open _root_.Go.Proofs.Tryz
open Option renaming some→σ,none→ν
open Go.IntKind renaming i64→κ
open Go.Ending renaming returned→τ
open Go.Obj renaming cells→ξ
open Go renaming World→ω,Value→υ
open Go.RowKit renaming Below→δ
open Go.Value renaming int→ι,string→θ,slice→ψ,pointer→π,agg→χ
variable{p:List Int}{m:Int}
namespace S
def DZ(b:UInt8):Bool:=decide (32<=b.toNat)&&decide (b.toNat<=126)&&decide (b.toNat≠39)
def G7(s:ByteArray):Bool:=decide (s.size<=12)&&s.data.toList.all DZ
theorem aae(c:ByteArray)(w:ω) :
 Calls prog 110 #[θ c] w λd i=>d=τ (.bool (G7 c))/\w=i:=by
 have e:DZ=fq:=funext λb=>by rw[kj,yt];simp[DZ];omega
 unfold G7;rw[e];exact qc c w
def okB(k:Int)(c:Cl):Bool:=
 if c.null then decide (c.n=0)&&c.s.toList.isEmpty else if k=0 then c.s.toList.isEmpty else if k=1 then decide (c.n=0)&&G7 c.s else if k=2 then c.s.toList.isEmpty&&(decide (c.n=0)||decide (c.n=1))else false
theorem Rw{c:ByteArray}(d:c.size=0):c=ByteArray.empty:=by
 cases c with
 |mk e=>congr 1;exact Array.eq_empty_of_size_eq_zero d
theorem LV(e:Int)(c:Cl)(w:ω)(j:c.s.size<=140737488351232) :
 Calls prog 233 #[χ #[.bool c.null,ι κ c.n,θ c.s],ι κ e] w λd i=>d=τ (.bool (okB e c))/\δ w.heap.size w i:=by
 obtain⟨l,k,m⟩:=c;simp only at j;cases l
 .go_in;go_wp2_with(go_at_call 110;refine(aae m _).mono ?_;rintro d i ⟨rfl,rfl⟩);all_goals(go_ret;refine⟨bn Ending.returned (bn Value.bool ?_),(ah _ _).alloc (ae _) _⟩)
  all_goals first
   | (simp_all [okB];done)
   | (simp_all [okB];rw[show(k==0)=false from aL.2 ‹_›,Bool.false_or];rfl)
 go_in;go_wp2;(all_goals(go_ret;refine⟨bn Ending.returned (bn Value.bool ?_),(ah _ _).alloc (ae _) _⟩));all_goals simp_all [okB]
theorem Rx(c:Cl)(w:ω) :
 Calls prog 341 #[χ #[.bool c.null,ι κ c.n,θ c.s]] w λd e=>d=τ (.bool c.null)/\δ w.heap.size w e:=by go_in;go_wp2;go_ret;exact⟨rfl,(ah _ _).alloc (ae _) _⟩
theorem JH(d:Int)(c:Cl)(q:Nat)(w:ω)(k:w.cell? ⟨q,0,ν⟩=σ (ι κ d))(l:c.s.size<=140737488351232) :
 Calls prog 232 #[χ #[.bool c.null,ι κ c.n,θ c.s],π (σ ⟨q,0,ν⟩)] w λe i=>e=τ (.bool (!okB d c))/\δ w.heap.size w i:=by have m:q<w.heap.size:=bz _ _ k;go_in;go_wp2_with(go_at_call 233;refine(LV d c _ l).mono ?_;rintro e i ⟨rfl,j⟩);go_ret;exact⟨rfl,((ah _ _).alloc (ae _) _).trans (j.mono (by simp))⟩
def idxOf(p:Cl->Bool)(cs:List Cl):Int:=if cs.any p then(cs.findIdx p:Int)else -1
theorem idxOf_hit{d:Cl->Bool}{cs:List Cl}{c:Nat}{j:Cl}(n:∀i k,i<c->cs[i]?=σ k->d k=false)(e:cs[c]?=σ j)(m:d j=true):idxOf d cs=(c:Int):=by have l:c<cs.length:=(aj.1 e).1;have o:cs.any d=true:=oy.2 ⟨j,aA e,m⟩;unfold idxOf;rw[aF o];have:cs.findIdx d=c:=(by rw[List.findIdx_eq l];refine⟨?_,λi p=>?_⟩;{rw[af l]at e;rw[bf e];exact m};exact n i _ p (af (by omega)));rw[this]
theorem idxOf_miss{e:Cl->Bool}{cs:List Cl}(i:∀(c:Nat) (d:Cl),cs[c]?=σ d->e d=false):idxOf e cs=-1:=by unfold idxOf;rw[aE];simp only[Bool.not_eq_true];rw[lP];intro l k;obtain⟨c,j⟩:=dz k;simp[i c l j]
theorem LW(c:Cl->Bool)(cs:List Cl):decide (0<=idxOf c cs)=cs.any c:=by unfold idxOf;cases h:cs.any c;{simp};simp
def amQ(w:ω)(cs:List Cl)(f:υ)(g:Cl->Bool):Prop:=(f=.func (.func 341) #[] #[]/\∀c,g c=c.null)\/∃(k:Int) (q:Nat),f=.func (.func 232) #[] #[π (σ ⟨q,0,ν⟩)]/\(∀c,g c=!okB k c)/\Hid (w.cell? ⟨q,0,ν⟩=σ (ι κ k))/\Hid (∀c∈cs,c.s.size<=140737488351232)
section
variable {cs:List Cl} {f:υ} {g:Cl->Bool} {a:Option Addr} {b off cap:Nat} {w:ω}
theorem Wc(I:amQ w cs f g)(A:0<cs.length->a=σ ⟨b,off,ν⟩)(B:mT w b off cs)(Q:cs.length<=1000):Calls prog 248 #[ψ a cs.length cap,f] w λx L=>x=τ (ι κ (idxOf g cs))/\δ w.heap.size w L:=by
 have E:=ak B;clear B;rcases I with⟨rfl,r⟩|⟨K,q,rfl,r,t,G⟩
 all_goals
  have F:=ak r;clear r;go_in;go_wp2;go_loopw[8] (λc wr=>∃d:Nat,d<=cs.length/\c=ι κ d/\δ w.heap.size w wr/\Hid (∀e i,e<d->cs[e]?=σ i->g i=false)) (λc _=>cs.length - (intOf c).toNat);case atStart=>exact⟨0,aK _,rfl,ah _ _,ak (λe i N=>by omega)⟩
  case round=>
   obtain⟨d,O,rfl,j,m⟩:=hrel;by_cases H:d<cs.length
   .have R:(d:Int)<(cs.length:Int):=(by omega);obtain⟨c,s⟩:∃c,cs[d]?=σ c:=⟨cs[d],af H⟩;obtain rfl:=A (by omega);obtain⟨p,u,v⟩:=E.J d c s;have C:b<w.heap.size:=bz _ _ p;have M:b<wr.heap.size:=ai C j.size;rw[<- j.cell (p:=⟨b,_,ν⟩) C]at p u v;have k:=ak j;have n:=ak s;clear j s A;go_wp2_with fail;first
     |refine(Rx c wr).mono ?_
     |refine(JH K c q wr ((k.J.cell (p:=⟨q,0,ν⟩) (bz _ _ t.J)).trans t.J) (G.J c (aA n.J))).mono ?_
    rintro x T ⟨rfl,z⟩;have y:=ak (k.J.trans (z.mono k.J.size));clear z p u v;rw[<- F.J c];cases hp:g c;{have o:=ak hp;clear hp;go_wp2;go_roundw;(case rel=>refine⟨d+1,by omega,by go_num,y.J,ak ?_⟩;intro e i P l;by_cases D:e=d;{subst D;rw[bf (l.symm.trans n.J)];exact o.J};exact m.J e i (by omega) l);case measure=>simp[intOf];omega};have o:=ak hp;clear hp;go_wp2;go_ret;exact⟨bn Ending.returned (bn (Value.int IntKind.i64) (idxOf_hit m.J n.J o.J).symm),y.J⟩
   have k:=ak j;clear j;go_wp2;go_ret;exact⟨bn Ending.returned (bn (Value.int IntKind.i64) (idxOf_miss (λe i l=>m.J e i (by have:=(aj.1 l).1;omega) l)).symm),k.J⟩
theorem UF(i:amQ w cs f g)(d:0<cs.length->a=σ ⟨b,off,ν⟩)(e:mT w b off cs)(m:cs.length<=1000):Calls prog 231 #[ψ a cs.length cap,f] w λc n=>c=τ (.bool (cs.any g))/\δ w.heap.size w n:=by
 have j:=ak (Wc (cap:=cap) i d e m);have k:=ak (LW g cs);clear d e;rcases i with⟨rfl,-⟩|⟨o,q,rfl,-⟩
 all_goals(go_in;go_wp2_with fail;refine j.J.mono ?_;rintro c p ⟨rfl,l⟩;generalize idxOf g cs=x at *;go_wp2;go_ret;exact⟨bn Ending.returned (bn Value.bool k.J),l⟩)
end
theorem A2(c:Int)(cs:List Cl)(a:Option Addr)(b off cap:Nat)(w:ω)(l:0<cs.length->a=σ ⟨b,off,ν⟩)(m:mT w b off cs)(u:cs.length<=1000)(n:∀d∈cs,d.s.size<=140737488351232) :
 Calls prog 209 #[ψ a cs.length cap,ι κ c] w λk y=>k=τ (.bool (cs.all (okB c)))/\δ w.heap.size w y:=by have j:mT (w.alloc (ξ #[ι κ c] 166)) b off cs:=(by intro v d r;obtain⟨e,s,t⟩:=m v d r;have i:b<w.heap.size:=bz _ _ e;exact⟨(qB _ _ _ i).trans e,(qB _ _ _ i).trans s,(qB _ _ _ i).trans t⟩);have p:=ak (UF (w:=w.alloc (ξ #[ι κ c] 166)) (cap:=cap) (.inr ⟨c,w.heap.size,rfl,λ_=>rfl,ak (by rw[cI _ _ _ _ rfl];rfl),ak n⟩) l j u);have o:Hid (cs.all (okB c)=!(cs.any λd=>!okB c d)):=ak (by rw[List.all_eq_not_any_not]);clear l m j n;go_in;go_wp2_with fail;refine p.J.mono ?_;rintro k z ⟨rfl,e⟩;generalize (cs.any λd=>!okB c d)=x at *;go_wp2;go_ret;exact⟨bn Ending.returned (bn Value.bool o.J.symm),((ah _ _).alloc (ae _) _).trans (e.mono (by simp))⟩
theorem yN{c:Cl}(o:cK c.n)(d:okB m c=true):xR m c:=by have e:c.s.toList.isEmpty=true->c.s=ByteArray.empty:=(by intro d;rw[gL,List.isEmpty_iff]at d;exact Rw (by rw[<- iq,d];rfl));refine⟨o,?_⟩;unfold okB at d;split;{rename_i i;rw[aF i]at d;simp only[Bool.and_eq_true,decide_eq_true_eq]at d;exact⟨d.1,e d.2⟩};rename_i i;rw[aE i]at d;split;{rename_i j;rw[aF j]at d;exact e d};rename_i j;rw[aE j]at d;split;{rename_i k;rw[aF k]at d;simp only[Bool.and_eq_true,decide_eq_true_eq,G7]at d;refine⟨d.1,d.2.1,λb n=>?_⟩;have:=ez.1 d.2.2 b n;simp only[DZ,Bool.and_eq_true,decide_eq_true_eq]at this;exact⟨this.1.1,this.1.2,this.2⟩};rename_i k;rw[aE k]at d;split;{rename_i l;rw[aF l]at d;simp only[Bool.and_eq_true,Bool.or_eq_true,decide_eq_true_eq]at d;exact⟨e d.1,d.2⟩};rename_i l;rw[aE l]at d;cases d
theorem D0{d:Cl}(e:xR m d):yM d:=by refine⟨e.1,?_⟩;have c:=e.2;have i:ByteArray.empty.size=0:=rfl;split at c;{rw[c.2];omega};split at c;{rw[c];omega};split at c;{exact c.2.1};split at c;{rw[c.1];omega};exact c.elim
end S
namespace S
def dE(cs:List Cl):List Int:=(cs.filter λc=>!c.null).map Cl.n
def leastOf:List Int->Int
 |[]=>0
 |n::r=>r.foldl min n
def pg:List Int->Int
 |[]=>0
 |n::r=>r.foldl max n
theorem N9(cs:List Cl)(c:Cl)(d:c.null=true):dE (cs++[c])=dE cs:=by simp[dE,d]
theorem Ry(cs:List Cl)(c:Cl)(d:c.null=false):dE (cs++[c])=dE cs++[c.n]:=by simp[dE,d]
theorem LX(c:List Int)(d:Int)(e:c≠[]):leastOf (c++[d])=min (leastOf c) d:=by
 cases c with
 |nil=>exact absurd rfl e
 |cons a i=>simp[leastOf]
theorem LY(c:List Int)(d:Int)(e:c≠[]):pg (c++[d])=max (pg c) d:=by
 cases c with
 |nil=>exact absurd rfl e
 |cons a i=>simp[pg]
theorem Cx(c:List Int):∀a,c.foldl min a<=a/\∀e∈c,c.foldl min a<=e:=by
 induction c with
 |nil=>intro a;simp
 |cons b c j=>
   intro a;have i:=j (min a b);simp only[List.foldl_cons];refine⟨by omega,λe d=>?_⟩;rcases bF.1 d with rfl|d
   . omega
   . exact i.2 e d
theorem Cy(c:List Int):∀a,a<=c.foldl max a/\∀e∈c,e<=c.foldl max a:=by
 induction c with
 |nil=>intro a;simp
 |cons b c j=>
   intro a;have i:=j (max a b);simp only[List.foldl_cons];refine⟨by omega,λe d=>?_⟩;rcases bF.1 d with rfl|d
   . omega
   . exact i.2 e d
theorem G8(c:m∈p):leastOf p<=m:=by
 cases p with
 |nil=>simp at c
 |cons a d=>
   have:=Cx d a;rcases bF.1 c with rfl|c
   . exact this.1
   . exact this.2 m c
theorem Rz(c:m∈p):m<=pg p:=by
 cases p with
 |nil=>simp at c
 |cons a d=>
   have:=Cy d a;rcases bF.1 c with rfl|c
   . exact this.1
   . exact this.2 m c
theorem LZ(c:List Int):∀a,cK a->(∀d∈c,cK d)->cK (c.foldl min a):=by
 induction c with
 |nil=>intro a e _;exact e
 |cons b c k=>
   intro a e i;simp only[List.foldl_cons];have l:=i b (by simp);exact k _ (by unfold cK at *;omega) (λd j=>i d (by simp[j]))
theorem L5(c:List Int):∀a,cK a->(∀d∈c,cK d)->cK (c.foldl max a):=by
 induction c with
 |nil=>intro a e _;exact e
 |cons b c k=>
   intro a e i;simp only[List.foldl_cons];have l:=i b (by simp);exact k _ (by unfold cK at *;omega) (λd j=>i d (by simp[j]))
theorem tI(d:∀c∈p,cK c):cK (leastOf p):=by
 cases p with
 |nil=>simp[leastOf,cK]
 |cons a i=>exact LZ i a (d a (by simp)) (λc e=>d c (by simp[e]))
theorem G9(d:∀c∈p,cK c):cK (pg p):=by
 cases p with
 |nil=>simp[pg,cK]
 |cons a i=>exact L5 i a (d a (by simp)) (λc e=>d c (by simp[e]))
theorem Ha(c:List Int):leastOf c<=pg c:=by
 cases c with
 |nil=>simp[leastOf,pg]
 |cons a d=>have e:=Cx d a;have i:=Cy d a;simp only[leastOf,pg];omega
theorem zQ{cs:List Cl}(i:∀c∈cs,cK c.n):∀e∈dE cs,cK e:=by intro e d;simp only[dE,List.mem_map,List.mem_filter]at d;obtain⟨c,⟨j,_⟩,rfl⟩:=d;exact i c j
def nE(l:List Int):Nat:=(pg l - leastOf l).toNat
theorem Gc(c:∀i∈p,cK i):nE p<18446744073709551616:=by have d:=tI c;have e:=G9 c;unfold cK at d e;unfold nE;omega
theorem Oa{a b:Int}(c:cK a)(d:cK b)(e:b<=a):IntKind.u64.wrap (IntKind.u64.wrap a - IntKind.u64.wrap b)=(((a - b).toNat:Nat):Int):=by unfold cK at c d;rw[gG,gG,gG];omega
theorem Ob(cs:List Cl)(a:Option Addr)(b off cap:Nat)(w:ω)(u:0<cs.length->a=σ ⟨b,off,ν⟩)(v:mT w b off cs)(M:cs.length<=1000)(y:∀e∈cs,cK e.n) :
 Calls prog 343 #[ψ a cs.length cap] w λd I=>d=τ (.tuple #[ι κ (leastOf (dE cs)),ι κ (bitLen (nE (dE cs)):Int)])/\δ w.heap.size w I:=by
 have A:=v;have B:=ak y;clear v y;go_in;go_wp2;go_loopw[2,4,5,10] (λH G F e wr=>∃c:Nat,c<=cs.length/\e=ι κ c/\H=ι κ (leastOf (dE (cs.take c)))/\G=ι κ (pg (dE (cs.take c)))/\F=.bool (!(dE (cs.take c)).isEmpty)/\Hid (δ w.heap.size w wr)) (λ_ _ _ e _=>cs.length - (intOf e).toNat);case atStart=>exact⟨0,aK _,rfl,rfl,rfl,rfl,ak (ah _ _)⟩
 case round=>obtain⟨c,L,rfl,rfl,rfl,rfl,i⟩:=hrel;by_cases E:c<cs.length;{have O:(c:Int)<(cs.length:Int):=(by omega);obtain⟨e,r⟩:∃e,cs[c]?=σ e:=⟨cs[c],af E⟩;obtain rfl:=u (by omega);obtain⟨n,C,D⟩:=A c e r;have x:b<w.heap.size:=bz _ _ n;have K:b<wr.heap.size:=ai x i.J.size;rw[<- i.J.cell (p:=⟨b,_,ν⟩) x]at n C D;have p:=ak (gj r);generalize cs.take c=pre at *;clear r u;cases hn:e.null;{rw[hn]at n;have j:=Ry pre e hn;generalize dE pre=l at *;cases hl:l.isEmpty;{have o:l≠[]:=(by intro d;rw[d]at hl;simp at hl);have k:=ak j;have t:=ak o;clear j o;go_wp2_with fail;go_region;go_wp2;go_roundw;(case rel=>have d:dE (cs.take (c+1))=l++[e.n]:=(by rw[p.J,k.J]);refine⟨c+1,by omega,by go_num,?_,?_,?_,ak ((i.J.alloc i.J.size _).drew)⟩;{rw[d,LX _ _ t.J]};{rw[d,LY _ _ t.J]};rw[d];simp);case measure=>simp[intOf];omega};have o:l=[]:=(by simpa using hl);subst o;have k:=ak j;clear j;go_wp2_with fail;go_region;go_wp2;go_roundw;(case rel=>have d:dE (cs.take (c+1))=[e.n]:=(by rw[p.J,k.J];rfl);refine⟨c+1,by omega,by go_num,?_,?_,?_,ak ((i.J.alloc i.J.size _).drew)⟩;{rw[d];rfl};{rw[d];rfl};rw[d];rfl);case measure=>simp[intOf];omega};rw[hn]at n;have j:=N9 pre e hn;generalize dE pre=l at *;have k:=ak j;clear j;go_wp2;go_roundw;(case rel=>have d:dE (cs.take (c+1))=l:=(by rw[p.J,k.J]);refine⟨c+1,by omega,by go_num,by rw[d],by rw[d],by rw[d],ak (i.J.alloc i.J.size _)⟩);case measure=>simp[intOf];omega};obtain rfl:c=cs.length:=(by omega);have m:=zQ B.J;have z:=ak (Oa (G9 m) (tI m) (Ha _));have N:=Gc m;have s:=ak (show(pg (dE cs) - leastOf (dE cs)).toNat=nE (dE cs)from rfl);clear m;go_wp2_with fail;rw[z.J,s.J];generalize nE (dE cs)=sp at *;refine(DX _ _ (by omega) (by omega)).mono ?_;rintro d P ⟨rfl,rfl⟩;rw[bN];go_wp2;go_ret2;exact⟨by rw[show nE (dE cs)=sp from s.J];rfl,i.J⟩
end S
