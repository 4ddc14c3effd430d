import Derived.Test.YtfeckmaleonjjaaGreatDoorFAK
import Derived.Test.YtfeckmaleonjjaaGreatDoorFAE
set_option maxHeartbeats 0
set_option maxRecDepth 100000
namespace Go.Proofs.YtfeckmaleonjjaaGreatDoor
open List renaming length→Λ
open Go.RowKit
open _root_.Go.Proofs.Tryz
open Option renaming some→σ,none→ν
open Go.Ending renaming returned→τ
open Go.Value renaming string→θ,slice→ψ
variable{p:Δ Int}{m:Int}
namespace S
def Fj(b:UInt8):Bool:=decide (32<=b.toNat)&&decide (b.toNat<=126)&&decide (b.toNat≠39)
def IW(s:Γ):Bool:=decide (s.size<=12)&&s.data.toList.all Fj
theorem Uq(c:Γ)(w:World) :
 Calls prog 145 #[θ c] w λd i=>d=τ (.bool (IW c))/\w=i:=by
 have e:Fj=gM:=funext λb=>by rw[jt,zT];simp[Fj];omega
 unfold IW;rw[e];exact yE c w
def okB(k:Int)(c:Cl):Bool:=
 if c.bH then decide (c.n=0)&&c.s.toList.isEmpty else if k=0 then c.s.toList.isEmpty else if k=1 then decide (c.n=0)&&IW c.s else if k=2 then c.s.toList.isEmpty&&(decide (c.n=0)||decide (c.n=1))else false
theorem Ur{c:Γ}(d:c.size=0):c=ByteArray.empty:=by cases c with|mk e=>congr 1;exact Array.eq_empty_of_size_eq_zero d
theorem NA(e:Int)(c:Cl)(w:World)(j:c.s.size<=140737488351232) :
 Calls prog 218 #[.agg #[.bool c.bH,.int .i64 c.n,θ c.s],.int .i64 e] w λd i=>d=τ (.bool (okB e c))/\Below w.heap.size w i:=by
 obtain⟨l,k,m⟩:=c;simp only at j;cases l
 .go_in;go_wp2_with(go_at_call 145;refine(Uq m _).mono ?_;rintro d i ⟨rfl,rfl⟩);all_goals(go_ret;refine⟨bI Ending.returned (bI Value.bool ?_),(aj _ _).alloc (ae _) _⟩)
  all_goals first
   | (simp_all [okB];done)
   | (simp_all [okB];rw[show(k==0)=false from aY.2 ‹_›,Bool.false_or];rfl)
 go_in;go_wp2;(all_goals(go_ret;refine⟨bI Ending.returned (bI Value.bool ?_),(aj _ _).alloc (ae _) _⟩));all_goals simp_all [okB]
theorem Us(c:Cl)(w:World) :
 Calls prog 352 #[.agg #[.bool c.bH,.int .i64 c.n,θ c.s]] w λd e=>d=τ (.bool c.bH)/\Below w.heap.size w e:=by go_in;go_wp2;go_ret;exact⟨rfl,(aj _ _).alloc (ae _) _⟩
theorem KY(d:Int)(c:Cl)(q:Nat)(w:World)(k:w.cell? ⟨q,0,ν⟩=σ (.int .i64 d))(l:c.s.size<=140737488351232) :
 Calls prog 217 #[.agg #[.bool c.bH,.int .i64 c.n,θ c.s],.pointer (σ ⟨q,0,ν⟩)] w λe i=>e=τ (.bool (!okB d c))/\Below w.heap.size w i:=by have m:q<w.heap.size:=bT _ _ k;go_in;go_wp2_with(go_at_call 218;refine(NA d c _ l).mono ?_;rintro e i ⟨rfl,j⟩);go_ret;exact⟨rfl,((aj _ _).alloc (ae _) _).trans (j.mono (by simp))⟩
def idxOf(p:Cl->Bool)(cs:Δ Cl):Int:=if cs.any p then(cs.findIdx p:Int)else -1
theorem idxOf_hit{d:Cl->Bool}{cs:Δ Cl}{c:Nat}{j:Cl}(n:∀i k,i<c->cs[i]?=σ k->d k=false)(e:cs[c]?=σ j)(m:d j=true):idxOf d cs=(c:Int):=by have l:c<Λ cs:=(ah.1 e).1;have o:cs.any d=true:=kM.2 ⟨j,aq e,m⟩;unfold idxOf;rw[aN o];have:cs.findIdx d=c:=(by rw[List.findIdx_eq l];refine⟨?_,λi p=>?_⟩;{rw[af l]at e;rw[bh e];exact m};exact n i _ p (af (by omega)));rw[this]
theorem idxOf_miss{e:Cl->Bool}{cs:Δ Cl}(i:∀(c:Nat) (d:Cl),cs[c]?=σ d->e d=false):idxOf e cs=-1:=by unfold idxOf;rw[aH];simp only[Bool.not_eq_true];rw[jh];intro l k;have⟨c,j⟩:=cB k;simp[i c l j]
theorem NB(c:Cl->Bool)(cs:Δ Cl):decide (0<=idxOf c cs)=cs.any c:=by unfold idxOf;cases h:cs.any c;{simp};simp
def aoH(w:World)(cs:Δ Cl)(f:Value)(g:Cl->Bool):Prop:=(f=.func (.func 352) #[] #[]/\∀c,g c=c.bH)\/∃(k:Int) (q:Nat),f=.func (.func 217) #[] #[.pointer (σ ⟨q,0,ν⟩)]/\(∀c,g c=!okB k c)/\Hid (w.cell? ⟨q,0,ν⟩=σ (.int .i64 k))/\Hid (∀c∈cs,c.s.size<=140737488351232)
section
variable {cs:Δ Cl} {f:Value} {g:Cl->Bool} {a:Option Addr} {b off cap:Nat} {w:World}
theorem YF(I:aoH w cs f g)(G:0<Λ cs->a=σ ⟨b,off,ν⟩)(H:kC w b off cs)(R:Λ cs<=1000):Calls prog 231 #[ψ a (Λ cs) cap,f] w λt L=>t=τ (.int .i64 (idxOf g cs))/\Below w.heap.size w L:=by
 have A:=ak H;rcases I with⟨rfl,u⟩|⟨K,q,rfl,u,p,C⟩
 all_goals
  have B:=ak u;go_in;go_wp2;go_loopw[8] (λc wr=>∃d:Nat,d<=Λ cs/\c=.int .i64 d/\Below w.heap.size w wr/\Hid (∀e i,e<d->cs[e]?=σ i->g i=false)) (λc _=>Λ cs - (intOf c).toNat);case atStart=>exact⟨0,aB _,rfl,aj _ _,ak (λe i O=>by omega)⟩
  case round=>
   obtain⟨d,P,rfl,l,m⟩:=hrel;by_cases s:d<Λ cs
   .have N:=aX.2 s;obtain⟨c,y⟩:∃c,cs[d]?=σ c:=⟨cs[d],af s⟩;obtain rfl:=G (by omega);have⟨r,D,E⟩:=A.J d c y;have x:b<w.heap.size:=bT _ _ r;have M:b<wr.heap.size:=aw x l.size;rw[<- l.cell (p:=⟨b,_,ν⟩) x]at r D E;have j:=ak l;have n:=ak y;go_wp21;first
     |refine(Us c wr).mono ?_
     |refine(KY K c q wr ((j.J.cell (p:=⟨q,0,ν⟩) (bT _ _ p.J)).trans p.J) (C.J c (aq n.J))).mono ?_
    rintro t T ⟨rfl,F⟩;have v:=ak (j.J.trans (F.mono j.J.size));rw[<- B.J c];cases hp:g c;{have o:=ak hp;go_wp2;go_roundw;(case rel=>refine⟨d+1,by omega,by go_num,v.J,ak ?_⟩;intro e i Q k;by_cases z:e=d;{subst z;rw[bh (k.symm.trans n.J)];exact o.J};exact m.J e i (by omega) k);case measure=>simp[intOf];omega};have o:=ak hp;go_wp2;go_ret;exact⟨bI Ending.returned (bI (Value.int IntKind.i64) (idxOf_hit m.J n.J o.J).symm),v.J⟩
   have j:=ak l;go_wp2;go_ret;exact⟨bI Ending.returned (bI (Value.int IntKind.i64) (idxOf_miss (λe i k=>m.J e i (by have:=(ah.1 k).1;omega) k)).symm),j.J⟩
theorem WE(d:aoH w cs f g)(k:0<Λ cs->a=σ ⟨b,off,ν⟩)(l:kC w b off cs)(m:Λ cs<=1000):Calls prog 216 #[ψ a (Λ cs) cap,f] w λc n=>c=τ (.bool (cs.any g))/\Below w.heap.size w n:=by
 have e:=ak (YF (cap:=cap) d k l m);have i:=ak (NB g cs);rcases d with⟨rfl,-⟩|⟨o,q,rfl,-⟩
 all_goals go_in;go_wp21;refine e.J.mono ?_;rintro c p ⟨rfl,j⟩;generalize idxOf g cs=x at *;go_wp2;go_ret;exact⟨bI Ending.returned (bI Value.bool i.J),j⟩
end
theorem B6(c:Int)(cs:Δ Cl)(a:Option Addr)(b off cap:Nat)(w:World)(r:0<Λ cs->a=σ ⟨b,off,ν⟩)(s:kC w b off cs)(t:Λ cs<=1000)(u:∀d∈cs,d.s.size<=140737488351232) :
 Calls prog 202 #[ψ a (Λ cs) cap,.int .i64 c] w λj y=>j=τ (.bool (cs.all (okB c)))/\Below w.heap.size w y:=by have m:kC (w.alloc (.cells #[.int .i64 c] 211)) b off cs:=(by intro v d n;have⟨e,o,p⟩:=s v d n;have i:b<w.heap.size:=bT _ _ e;exact⟨(rX _ _ _ i).trans e,(rX _ _ _ i).trans o,(rX _ _ _ i).trans p⟩);have l:=ak (WE (w:=w.alloc (.cells #[.int .i64 c] 211)) (cap:=cap) (.inr ⟨c,w.heap.size,rfl,λ_=>rfl,ak (by rw[dj _ _ _ _ rfl];rfl),ak u⟩) r m t);have k:Hid (cs.all (okB c)=!(cs.any λd=>!okB c d)):=ak (by rw[List.all_eq_not_any_not]);go_in;go_wp21;refine l.J.mono ?_;rintro j z ⟨rfl,e⟩;generalize (cs.any λd=>!okB c d)=x at *;go_wp2;go_ret;exact⟨bI Ending.returned (bI Value.bool k.J.symm),((aj _ _).alloc (ae _) _).trans (e.mono (by simp))⟩
theorem Am{c:Cl}(o:dK c.n)(d:okB m c=true):zm m c:=by have e:c.s.toList.isEmpty=true->c.s=ByteArray.empty:=(by intro d;rw[ja,List.isEmpty_iff]at d;exact Ur (by rw[<- jC,d];rfl));refine⟨o,?_⟩;unfold okB at d;split;{rename_i i;rw[aN i]at d;simp only[Bool.and_eq_true,decide_eq_true_eq]at d;exact⟨d.1,e d.2⟩};rename_i i;rw[aH i]at d;split;{rename_i j;rw[aN j]at d;exact e d};rename_i j;rw[aH j]at d;split;{rename_i k;rw[aN k]at d;simp only[Bool.and_eq_true,decide_eq_true_eq,IW]at d;refine⟨d.1,d.2.1,λb n=>?_⟩;have:=gQ.1 d.2.2 b n;simp only[Fj,Bool.and_eq_true,decide_eq_true_eq]at this;exact⟨this.1.1,this.1.2,this.2⟩};rename_i k;rw[aH k]at d;split;{rename_i l;rw[aN l]at d;simp only[Bool.and_eq_true,Bool.or_eq_true,decide_eq_true_eq]at d;exact⟨e d.1,d.2⟩};rename_i l;rw[aH l]at d;cases d
theorem Fl{d:Cl}(e:zm m d):Aj d:=by refine⟨e.1,?_⟩;have c:=e.2;have i:ByteArray.empty.size=0:=rfl;split at c;{rw[c.2];omega};split at c;{rw[c];omega};split at c;{exact c.2.1};split at c;{rw[c.1];omega};exact c.elim
end S
namespace S
def eI(cs:Δ Cl):Δ Int:=(cs.filter λc=>!c.bH).map Cl.n
def leastOf:Δ Int->Int
 |[]=>0
 |n::r=>r.foldl min n
def qu:Δ Int->Int
 |[]=>0
 |n::r=>r.foldl max n
theorem QC(cs:Δ Cl)(c:Cl)(d:c.bH=true):eI (cs++[c])=eI cs:=by simp[eI,d]
theorem Ut(cs:Δ Cl)(c:Cl)(d:c.bH=false):eI (cs++[c])=eI cs++[c.n]:=by simp[eI,d]
theorem NC(c:Δ Int)(d:Int)(e:c≠[]):leastOf (c++[d])=min (leastOf c) d:=by cases c with|nil=>exact absurd rfl e|cons a i=>simp[leastOf]
theorem ND(c:Δ Int)(d:Int)(e:c≠[]):qu (c++[d])=max (qu c) d:=by cases c with|nil=>exact absurd rfl e|cons a i=>simp[qu]
theorem D3(c:Δ Int):∀a,c.foldl min a<=a/\∀e∈c,c.foldl min a<=e:=by
 induction c with
 |nil=>intro a;simp
 |cons b c j=>
  intro a;have i:=j (min a b);simp only[List.foldl_cons];refine⟨by omega,λe d=>?_⟩;rcases bV.1 d with rfl|d
  {omega};exact i.2 e d
theorem D4(c:Δ Int):∀a,a<=c.foldl max a/\∀e∈c,e<=c.foldl max a:=by
 induction c with
 |nil=>intro a;simp
 |cons b c j=>
  intro a;have i:=j (max a b);simp only[List.foldl_cons];refine⟨by omega,λe d=>?_⟩;rcases bV.1 d with rfl|d
  {omega};exact i.2 e d
theorem IX(c:m∈p):leastOf p<=m:=by
 cases p with
 |nil=>simp at c
 |cons a d=>
  have:=D3 d a;rcases bV.1 c with rfl|c
  {exact this.1};exact this.2 m c
theorem Uu(c:m∈p):m<=qu p:=by
 cases p with
 |nil=>simp at c
 |cons a d=>
  have:=D4 d a;rcases bV.1 c with rfl|c
  {exact this.1};exact this.2 m c
theorem NF(c:Δ Int):∀a,dK a->(∀d∈c,dK d)->dK (c.foldl min a):=by induction c with|nil=>(intro a e _;exact e)|cons b c k=>intro a e i;simp only[List.foldl_cons];have l:=i b (by simp);exact k _ (by unfold dK at *;omega) (λd j=>i d (by simp[j]))
theorem NG(c:Δ Int):∀a,dK a->(∀d∈c,dK d)->dK (c.foldl max a):=by induction c with|nil=>(intro a e _;exact e)|cons b c k=>intro a e i;simp only[List.foldl_cons];have l:=i b (by simp);exact k _ (by unfold dK at *;omega) (λd j=>i d (by simp[j]))
theorem uY(d:∀c∈p,dK c):dK (leastOf p):=by cases p with|nil=>simp[leastOf,dK]|cons a i=>exact NF i a (d a (by simp)) (λc e=>d c (by simp[e]))
theorem IY(d:∀c∈p,dK c):dK (qu p):=by cases p with|nil=>simp[qu,dK]|cons a i=>exact NG i a (d a (by simp)) (λc e=>d c (by simp[e]))
theorem IZ(c:Δ Int):leastOf c<=qu c:=by cases c with|nil=>simp[leastOf,qu]|cons a d=>have e:=D3 d a;have i:=D4 d a;simp only[leastOf,qu];omega
theorem Bf{cs:Δ Cl}(i:∀c∈cs,dK c.n):∀e∈eI cs,dK e:=by intro e d;simp only[eI,List.mem_map,List.mem_filter]at d;obtain⟨c,⟨j,_⟩,rfl⟩:=d;exact i c j
def oJ(l:Δ Int):Nat:=(qu l - leastOf l).toNat
theorem Hb(c:∀i∈p,dK i):oJ p<18446744073709551616:=by have d:=uY c;have e:=IY c;unfold dK at d e;unfold oJ;omega
theorem QD{a b:Int}(c:dK a)(d:dK b)(e:b<=a):IntKind.u64.wrap (IntKind.u64.wrap a - IntKind.u64.wrap b)=(((a - b).toNat:Nat):Int):=by unfold dK at c d;rw[iO,iO,iO];omega
theorem QE(cs:Δ Cl)(a:Option Addr)(b off cap:Nat)(w:World)(v:0<Λ cs->a=σ ⟨b,off,ν⟩)(x:kC w b off cs)(N:Λ cs<=1000)(z:∀e∈cs,dK e.n) :
 Calls prog 354 #[ψ a (Λ cs) cap] w λd I=>d=τ (.tuple #[.int .i64 (leastOf (eI cs)),.int .i64 (bitLen (oJ (eI cs)):Int)])/\Below w.heap.size w I:=by
 have B:=x;have C:=ak z;clear x z;go_in;go_wp2;go_loopw[2,4,5,10] (λH G F e wr=>∃c:Nat,c<=Λ cs/\e=.int .i64 c/\H=.int .i64 (leastOf (eI (cs.take c)))/\G=.int .i64 (qu (eI (cs.take c)))/\F=.bool (!(eI (cs.take c)).isEmpty)/\Hid (Below w.heap.size w wr)) (λ_ _ _ e _=>Λ cs - (intOf e).toNat);case atStart=>exact⟨0,aB _,rfl,rfl,rfl,rfl,ak (aj _ _)⟩
 case round=>obtain⟨c,M,rfl,rfl,rfl,rfl,i⟩:=hrel;by_cases u:c<Λ cs;{have L:=aX.2 u;obtain⟨e,r⟩:∃e,cs[c]?=σ e:=⟨cs[c],af u⟩;obtain rfl:=v (by omega);obtain⟨n,D,E⟩:=B c e r;have y:b<w.heap.size:=bT _ _ n;have K:b<wr.heap.size:=aw y i.J.size;rw[<- i.J.cell (p:=⟨b,_,ν⟩) y]at n D E;have p:=ak (iG r);generalize cs.take c=pre at *;clear r v;cases hn:e.bH;{rw[hn]at n;have j:=Ut pre e hn;generalize eI pre=l at *;cases hl:l.isEmpty;{have o:l≠[]:=(by intro d;rw[d]at hl;simp at hl);have k:=ak j;have t:=ak o;clear j o;go_wp2;go_region;go_wp2;go_roundw;(case rel=>have d:eI (cs.take (c+1))=l++[e.n]:=(by rw[p.J,k.J]);refine⟨c+1,by omega,by go_num,?_,?_,?_,ak ((i.J.alloc i.J.size _).drew)⟩;{rw[d,NC _ _ t.J]};{rw[d,ND _ _ t.J]};rw[d];simp);case measure=>simp[intOf];omega};have o:l=[]:=(by simpa using hl);subst o;have k:=ak j;clear j;go_wp2;go_region;go_wp2;go_roundw;(case rel=>have d:eI (cs.take (c+1))=[e.n]:=(by rw[p.J,k.J];rfl);refine⟨c+1,by omega,by go_num,?_,?_,?_,ak ((i.J.alloc i.J.size _).drew)⟩;{rw[d];rfl};{rw[d];rfl};rw[d];rfl);case measure=>simp[intOf];omega};rw[hn]at n;have j:=QC pre e hn;generalize eI pre=l at *;have k:=ak j;clear j;go_wp2;go_roundw;(case rel=>have d:eI (cs.take (c+1))=l:=(by rw[p.J,k.J]);refine⟨c+1,by omega,by go_num,by rw[d],by rw[d],by rw[d],ak (i.J.alloc i.J.size _)⟩);case measure=>simp[intOf];omega};obtain rfl:c=Λ cs:=(by omega);have m:=Bf C.J;have A:=ak (QD (IY m) (uY m) (IZ _));have O:=Hb m;have s:=ak (show(qu (eI cs) - leastOf (eI cs)).toNat=oJ (eI cs)from rfl);clear m;go_wp21;rw[A.J,s.J];generalize oJ (eI cs)=sp at *;refine(Ff _ _ (by omega) (by omega)).mono ?_;rintro d P ⟨rfl,rfl⟩;rw[cm];go_wp2;go_ret2;exact⟨by rw[show oJ (eI cs)=sp from s.J];rfl,i.J⟩
end S
