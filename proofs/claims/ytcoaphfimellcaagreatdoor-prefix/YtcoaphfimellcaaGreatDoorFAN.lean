import Derived.Test.YtcoaphfimellcaaGreatDoorFAK
import Derived.Test.YtcoaphfimellcaaGreatDoorFAE
set_option maxHeartbeats 0
set_option maxRecDepth 100000
namespace Go.Proofs.YtcoaphfimellcaaGreatDoor
open Go.RowKit
open _root_.Go.Proofs.Tryz
open Option renaming some→σ,none→ν
open Go.Ending renaming returned→τ
open Go.Value renaming string→θ,slice→ψ
variable{p:List Int}{m:Int}
namespace S
def EY(b:UInt8):Bool:=decide (32<=b.toNat)&&decide (b.toNat<=126)&&decide (b.toNat≠39)
def FU(s:ByteArray):Bool:=decide (s.size<=12)&&s.data.toList.all EY
theorem Ui(c:ByteArray)(w:World) :
 Calls prog 110 #[θ c] w λd i=>d=τ (.bool (FU c))/\w=i:=by
 have e:EY=fX:=funext λb=>by rw[ld,zx];simp[EY];omega
 unfold FU;rw[e];exact xP c w
def okB(k:Int)(c:Cl):Bool:=
 if c.null then decide (c.n=0)&&c.s.toList.isEmpty else if k=0 then c.s.toList.isEmpty else if k=1 then decide (c.n=0)&&FU c.s else if k=2 then c.s.toList.isEmpty&&(decide (c.n=0)||decide (c.n=1))else false
theorem Uj{c:ByteArray}(d:c.size=0):c=ByteArray.empty:=by cases c with|mk e=>congr 1;exact nj d
theorem NY(e:Int)(c:Cl)(w:World)(j:c.s.size<=140737488351232) :
 Calls prog 233 #[.agg #[.bool c.null,.int .i64 c.n,θ c.s],.int .i64 e] w λd i=>d=τ (.bool (okB e c))/\Below w.heap.size w i:=by
 obtain⟨l,k,m⟩:=c;simp only at j;cases l
 .go_in;go_wp2_with(go_at_call 110;refine(Ui m _).mono ?_;rintro d i ⟨rfl,rfl⟩);all_goals(go_ret;refine⟨a7 Ending.returned (a7 Value.bool ?_),(ah _ _).alloc (ae _) _⟩)
  all_goals first
   | (simp_all [okB];done)
   | (simp_all [okB];rw[show(k==0)=false from aK.2 ‹_›,Bool.false_or];rfl)
 go_in;go_wp2;(all_goals(go_ret;refine⟨a7 Ending.returned (a7 Value.bool ?_),(ah _ _).alloc (ae _) _⟩));all_goals simp_all [okB]
theorem Uk(c:Cl)(w:World) :
 Calls prog 341 #[.agg #[.bool c.null,.int .i64 c.n,θ c.s]] w λd e=>d=τ (.bool c.null)/\Below w.heap.size w e:=by go_in;go_wp2;go_ret;exact⟨rfl,(ah _ _).alloc (ae _) _⟩
theorem Lg(d:Int)(c:Cl)(q:Nat)(w:World)(k:w.cell? ⟨q,0,ν⟩=σ (.int .i64 d))(l:c.s.size<=140737488351232) :
 Calls prog 232 #[.agg #[.bool c.null,.int .i64 c.n,θ c.s],.pointer (σ ⟨q,0,ν⟩)] w λe i=>e=τ (.bool (!okB d c))/\Below w.heap.size w i:=by have m:q<w.heap.size:=bA _ _ k;go_in;go_wp2_with(go_at_call 233;refine(NY d c _ l).mono ?_;rintro e i ⟨rfl,j⟩);go_ret;exact⟨rfl,((ah _ _).alloc (ae _) _).trans (j.mono (by simp))⟩
def idxOf(p:Cl->Bool)(cs:List Cl):Int:=if cs.any p then(cs.findIdx p:Int)else -1
theorem idxOf_hit{d:Cl->Bool}{cs:List Cl}{c:Nat}{j:Cl}(n:∀i k,i<c->cs[i]?=σ k->d k=false)(e:cs[c]?=σ j)(m:d j=true):idxOf d cs=(c:Int):=by have l:c<cs.length:=(aj.1 e).1;have o:cs.any d=true:=oZ.2 ⟨j,aA e,m⟩;unfold idxOf;rw[aF o];have:cs.findIdx d=c:=(by rw[List.findIdx_eq l];refine⟨?_,λi p=>?_⟩;{rw[af l]at e;rw[bk e];exact m};exact n i _ p (af (by omega)));rw[this]
theorem idxOf_miss{e:Cl->Bool}{cs:List Cl}(i:∀(c:Nat) (d:Cl),cs[c]?=σ d->e d=false):idxOf e cs=-1:=by unfold idxOf;rw[aE];simp only[Bool.not_eq_true];rw[mA];intro l k;have⟨c,j⟩:=dK k;simp[i c l j]
theorem NZ(c:Cl->Bool)(cs:List Cl):decide (0<=idxOf c cs)=cs.any c:=by unfold idxOf;cases h:cs.any c;{simp};simp
def apB(w:World)(cs:List Cl)(f:Value)(g:Cl->Bool):Prop:=(f=.func (.func 341) #[] #[]/\∀c,g c=c.null)\/∃(k:Int) (q:Nat),f=.func (.func 232) #[] #[.pointer (σ ⟨q,0,ν⟩)]/\(∀c,g c=!okB k c)/\Hid (w.cell? ⟨q,0,ν⟩=σ (.int .i64 k))/\Hid (∀c∈cs,c.s.size<=140737488351232)
section
variable {cs:List Cl} {f:Value} {g:Cl->Bool} {a:Option Addr} {b off cap:Nat} {w:World}
theorem Y3(G:apB w cs f g)(E:0<cs.length->a=σ ⟨b,off,ν⟩)(F:nD w b off cs)(O:cs.length<=1000):Calls prog 248 #[ψ a cs.length cap,f] w λs I=>s=τ (.int .i64 (idxOf g cs))/\Below w.heap.size w I:=by
 have y:=au F;rcases G with⟨rfl,t⟩|⟨H,q,rfl,t,p,A⟩
 all_goals
  have z:=au t;go_in;go_wp2;go_loopw[8] (λc wr=>∃d:Nat,d<=cs.length/\c=.int .i64 d/\Below w.heap.size w wr/\Hid (∀e i,e<d->cs[e]?=σ i->g i=false)) (λc _=>cs.length - (intOf c).toNat);case atStart=>exact⟨0,aI _,rfl,ah _ _,au (λe i L=>by omega)⟩
  case round=>
   obtain⟨d,M,rfl,l,m⟩:=hrel;by_cases C:d<cs.length
   .have P:(d:Int)<(cs.length:Int):=(by omega);obtain⟨c,x⟩:∃c,cs[d]?=σ c:=⟨cs[d],af C⟩;obtain rfl:=E (by omega);have⟨r,c1,c2⟩:=y.J d c x;have v:b<w.heap.size:=bA _ _ r;have K:b<wr.heap.size:=ai v l.size;rw[<- l.cell (p:=⟨b,_,ν⟩) v]at r c1 c2;have j:=au l;have n:=au x;go_wp2_with fail;first
     |refine(Uk c wr).mono ?_
     |refine(Lg H c q wr ((j.J.cell (p:=⟨q,0,ν⟩) (bA _ _ p.J)).trans p.J) (A.J c (aA n.J))).mono ?_
    rintro s Q ⟨rfl,D⟩;have u:=au (j.J.trans (D.mono j.J.size));rw[<- z.J c];cases hp:g c;{have o:=au hp;go_wp2;go_roundw;(case rel=>refine⟨d+1,by omega,by go_num,u.J,au ?_⟩;intro e i N k;by_cases B:e=d;{subst B;rw[bk (k.symm.trans n.J)];exact o.J};exact m.J e i (by omega) k);case measure=>simp[intOf];omega};have o:=au hp;go_wp2;go_ret;exact⟨a7 Ending.returned (a7 (Value.int IntKind.i64) (idxOf_hit m.J n.J o.J).symm),u.J⟩
   have j:=au l;go_wp2;go_ret;exact⟨a7 Ending.returned (a7 (Value.int IntKind.i64) (idxOf_miss (λe i k=>m.J e i (by have:=(aj.1 k).1;omega) k)).symm),j.J⟩
theorem Xd(d:apB w cs f g)(k:0<cs.length->a=σ ⟨b,off,ν⟩)(l:nD w b off cs)(m:cs.length<=1000):Calls prog 231 #[ψ a cs.length cap,f] w λc n=>c=τ (.bool (cs.any g))/\Below w.heap.size w n:=by
 have e:=au (Y3 (cap:=cap) d k l m);have i:=au (NZ g cs);rcases d with⟨rfl,-⟩|⟨o,q,rfl,-⟩
 all_goals go_in;go_wp2_with fail;refine e.J.mono ?_;rintro c p ⟨rfl,j⟩;generalize idxOf g cs=x at *;go_wp2;go_ret;exact⟨a7 Ending.returned (a7 Value.bool i.J),j⟩
end
theorem B1(c:Int)(cs:List Cl)(a:Option Addr)(b off cap:Nat)(w:World)(r:0<cs.length->a=σ ⟨b,off,ν⟩)(s:nD w b off cs)(t:cs.length<=1000)(u:∀d∈cs,d.s.size<=140737488351232) :
 Calls prog 209 #[ψ a cs.length cap,.int .i64 c] w λj y=>j=τ (.bool (cs.all (okB c)))/\Below w.heap.size w y:=by have m:nD (w.alloc (.cells #[.int .i64 c] 166)) b off cs:=(by intro v d n;have⟨e,o,p⟩:=s v d n;have i:b<w.heap.size:=bA _ _ e;exact⟨(q9 _ _ _ i).trans e,(q9 _ _ _ i).trans o,(q9 _ _ _ i).trans p⟩);have l:=au (Xd (w:=w.alloc (.cells #[.int .i64 c] 166)) (cap:=cap) (.inr ⟨c,w.heap.size,rfl,λ_=>rfl,au (by rw[cM _ _ _ _ rfl];rfl),au u⟩) r m t);have k:Hid (cs.all (okB c)=!(cs.any λd=>!okB c d)):=au (by rw[List.all_eq_not_any_not]);go_in;go_wp2_with fail;refine l.J.mono ?_;rintro j z ⟨rfl,e⟩;generalize (cs.any λd=>!okB c d)=x at *;go_wp2;go_ret;exact⟨a7 Ending.returned (a7 Value.bool k.J.symm),((ah _ _).alloc (ae _) _).trans (e.mono (by simp))⟩
theorem zO{c:Cl}(o:cR c.n)(d:okB m c=true):yQ m c:=by have e:c.s.toList.isEmpty=true->c.s=ByteArray.empty:=(by intro d;rw[iD,List.isEmpty_iff]at d;exact Uj (by rw[<- ji,d];rfl));refine⟨o,?_⟩;unfold okB at d;split;{rename_i i;rw[aF i]at d;simp only[Bool.and_eq_true,decide_eq_true_eq]at d;exact⟨d.1,e d.2⟩};rename_i i;rw[aE i]at d;split;{rename_i j;rw[aF j]at d;exact e d};rename_i j;rw[aE j]at d;split;{rename_i k;rw[aF k]at d;simp only[Bool.and_eq_true,decide_eq_true_eq,FU]at d;refine⟨d.1,d.2.1,λb n=>?_⟩;have:=eV.1 d.2.2 b n;simp only[EY,Bool.and_eq_true,decide_eq_true_eq]at this;exact⟨this.1.1,this.1.2,this.2⟩};rename_i k;rw[aE k]at d;split;{rename_i l;rw[aF l]at d;simp only[Bool.and_eq_true,Bool.or_eq_true,decide_eq_true_eq]at d;exact⟨e d.1,d.2⟩};rename_i l;rw[aE l]at d;cases d
theorem EZ{d:Cl}(e:yQ m d):zN d:=by refine⟨e.1,?_⟩;have c:=e.2;have i:ByteArray.empty.size=0:=rfl;split at c;{rw[c.2];omega};split at c;{rw[c];omega};split at c;{exact c.2.1};split at c;{rw[c.1];omega};exact c.elim
end S
namespace S
def dT(cs:List Cl):List Int:=(cs.filter λc=>!c.null).map Cl.n
def leastOf:List Int->Int
 |[]=>0
 |n::r=>r.foldl min n
def pU:List Int->Int
 |[]=>0
 |n::r=>r.foldl max n
theorem Qw(cs:List Cl)(c:Cl)(d:c.null=true):dT (cs++[c])=dT cs:=by simp[dT,d]
theorem Ul(cs:List Cl)(c:Cl)(d:c.null=false):dT (cs++[c])=dT cs++[c.n]:=by simp[dT,d]
theorem N0(c:List Int)(d:Int)(e:c≠[]):leastOf (c++[d])=min (leastOf c) d:=by cases c with|nil=>exact absurd rfl e|cons a i=>simp[leastOf]
theorem N1(c:List Int)(d:Int)(e:c≠[]):pU (c++[d])=max (pU c) d:=by cases c with|nil=>exact absurd rfl e|cons a i=>simp[pU]
theorem DG(c:List Int):∀a,c.foldl min a<=a/\∀e∈c,c.foldl min a<=e:=by
 induction c with
 |nil=>intro a;simp
 |cons b c j=>
  intro a;have i:=j (min a b);simp only[List.foldl_cons];refine⟨by omega,λe d=>?_⟩;rcases bq.1 d with rfl|d
  {omega};exact i.2 e d
theorem DH(c:List Int):∀a,a<=c.foldl max a/\∀e∈c,e<=c.foldl max a:=by
 induction c with
 |nil=>intro a;simp
 |cons b c j=>
  intro a;have i:=j (max a b);simp only[List.foldl_cons];refine⟨by omega,λe d=>?_⟩;rcases bq.1 d with rfl|d
  {omega};exact i.2 e d
theorem I0(c:m∈p):leastOf p<=m:=by
 cases p with
 |nil=>simp at c
 |cons a d=>
  have:=DG d a;rcases bq.1 c with rfl|c
  {exact this.1};exact this.2 m c
theorem Um(c:m∈p):m<=pU p:=by
 cases p with
 |nil=>simp at c
 |cons a d=>
  have:=DH d a;rcases bq.1 c with rfl|c
  {exact this.1};exact this.2 m c
theorem N2(c:List Int):∀a,cR a->(∀d∈c,cR d)->cR (c.foldl min a):=by induction c with|nil=>(intro a e _;exact e)|cons b c k=>intro a e i;simp only[List.foldl_cons];have l:=i b (by simp);exact k _ (by unfold cR at *;omega) (λd j=>i d (by simp[j]))
theorem N3(c:List Int):∀a,cR a->(∀d∈c,cR d)->cR (c.foldl max a):=by induction c with|nil=>(intro a e _;exact e)|cons b c k=>intro a e i;simp only[List.foldl_cons];have l:=i b (by simp);exact k _ (by unfold cR at *;omega) (λd j=>i d (by simp[j]))
theorem uM(d:∀c∈p,cR c):cR (leastOf p):=by cases p with|nil=>simp[leastOf,cR]|cons a i=>exact N2 i a (d a (by simp)) (λc e=>d c (by simp[e]))
theorem I3(d:∀c∈p,cR c):cR (pU p):=by cases p with|nil=>simp[pU,cR]|cons a i=>exact N3 i a (d a (by simp)) (λc e=>d c (by simp[e]))
theorem I4(c:List Int):leastOf c<=pU c:=by cases c with|nil=>simp[leastOf,pU]|cons a d=>have e:=DG d a;have i:=DH d a;simp only[leastOf,pU];omega
theorem A2{cs:List Cl}(i:∀c∈cs,cR c.n):∀e∈dT cs,cR e:=by intro e d;simp only[dT,List.mem_map,List.mem_filter]at d;obtain⟨c,⟨j,_⟩,rfl⟩:=d;exact i c j
def od(l:List Int):Nat:=(pU l - leastOf l).toNat
theorem Hp(c:∀i∈p,cR i):od p<18446744073709551616:=by have d:=uM c;have e:=I3 c;unfold cR at d e;unfold od;omega
theorem Qx{a b:Int}(c:cR a)(d:cR b)(e:b<=a):IntKind.u64.wrap (IntKind.u64.wrap a - IntKind.u64.wrap b)=(((a - b).toNat:Nat):Int):=by unfold cR at c d;rw[il,il,il];omega
theorem Qy(cs:List Cl)(a:Option Addr)(b off cap:Nat)(w:World)(u:0<cs.length->a=σ ⟨b,off,ν⟩)(v:nD w b off cs)(K:cs.length<=1000)(x:∀e∈cs,cR e.n) :
 Calls prog 343 #[ψ a cs.length cap] w λd G=>d=τ (.tuple #[.int .i64 (leastOf (dT cs)),.int .i64 (bitLen (od (dT cs)):Int)])/\Below w.heap.size w G:=by
 have A:=v;have B:=au x;clear v x;go_in;go_wp2;go_loopw[2,4,5,10] (λF E D e wr=>∃c:Nat,c<=cs.length/\e=.int .i64 c/\F=.int .i64 (leastOf (dT (cs.take c)))/\E=.int .i64 (pU (dT (cs.take c)))/\D=.bool (!(dT (cs.take c)).isEmpty)/\Hid (Below w.heap.size w wr)) (λ_ _ _ e _=>cs.length - (intOf e).toNat);case atStart=>exact⟨0,aI _,rfl,rfl,rfl,rfl,au (ah _ _)⟩
 case round=>obtain⟨c,I,rfl,rfl,rfl,rfl,i⟩:=hrel;by_cases C:c<cs.length;{have M:(c:Int)<(cs.length:Int):=(by omega);obtain⟨e,r⟩:∃e,cs[c]?=σ e:=⟨cs[c],af C⟩;obtain rfl:=u (by omega);obtain⟨n,c1,c2⟩:=A c e r;have y:b<w.heap.size:=bA _ _ n;have H:b<wr.heap.size:=ai y i.J.size;rw[<- i.J.cell (p:=⟨b,_,ν⟩) y]at n c1 c2;have p:=au (gY r);generalize cs.take c=pre at *;clear r u;cases hn:e.null;{rw[hn]at n;have j:=Ul pre e hn;generalize dT pre=l at *;cases hl:l.isEmpty;{have o:l≠[]:=(by intro d;rw[d]at hl;simp at hl);have k:=au j;have t:=au o;clear j o;go_wp2_with fail;go_region;go_wp2;go_roundw;(case rel=>have d:dT (cs.take (c+1))=l++[e.n]:=(by rw[p.J,k.J]);refine⟨c+1,by omega,by go_num,?_,?_,?_,au ((i.J.alloc i.J.size _).drew)⟩;{rw[d,N0 _ _ t.J]};{rw[d,N1 _ _ t.J]};rw[d];simp);case measure=>simp[intOf];omega};have o:l=[]:=(by simpa using hl);subst o;have k:=au j;clear j;go_wp2_with fail;go_region;go_wp2;go_roundw;(case rel=>have d:dT (cs.take (c+1))=[e.n]:=(by rw[p.J,k.J];rfl);refine⟨c+1,by omega,by go_num,?_,?_,?_,au ((i.J.alloc i.J.size _).drew)⟩;{rw[d];rfl};{rw[d];rfl};rw[d];rfl);case measure=>simp[intOf];omega};rw[hn]at n;have j:=Qw pre e hn;generalize dT pre=l at *;have k:=au j;clear j;go_wp2;go_roundw;(case rel=>have d:dT (cs.take (c+1))=l:=(by rw[p.J,k.J]);refine⟨c+1,by omega,by go_num,by rw[d],by rw[d],by rw[d],au (i.J.alloc i.J.size _)⟩);case measure=>simp[intOf];omega};obtain rfl:c=cs.length:=(by omega);have m:=A2 B.J;have z:=au (Qx (I3 m) (uM m) (I4 _));have L:=Hp m;have s:=au (show(pU (dT cs) - leastOf (dT cs)).toNat=od (dT cs)from rfl);clear m;go_wp2_with fail;rw[z.J,s.J];generalize od (dT cs)=sp at *;refine(EV _ _ (by omega) (by omega)).mono ?_;rintro d N ⟨rfl,rfl⟩;rw[bQ];go_wp2;go_ret2;exact⟨by rw[show od (dT cs)=sp from s.J];rfl,i.J⟩
end S
