import Derived.Test.YtcoaphfimellcaaGreatDoorFAC
import Derived.Deep.AppendLies
set_option maxHeartbeats 0
set_option maxRecDepth 100000
namespace Go.Proofs.YtcoaphfimellcaaGreatDoor
open Go.RowKit
open _root_.Go.Proofs.Tryz
open Option renaming some→σ,none→ν
open Go.IntKind renaming i64→κ
open Go.Ending renaming returned→τ
open Go.Obj renaming cells→ξ
open Go renaming World→ω,Value→υ
open Go.RowKit renaming Below→δ
open Go.Value renaming int→ι,string→θ,slice→ψ,pointer→π,agg→χ
variable{r V G:Nat}{u:List Nat}{y e T R:υ}{d:Nat->Prop}{j U:TypeId}{W:Program}{P K:ω}{M:Option Nat}{I:Int}
theorem ay{w:ω}{g:Nat}{o:Obj}(h:w.heap[g]?=σ o):g<w.heap.size:=(dq.mp h).1
def bz(w:ω)(size:Nat)(v:υ)(n:Nat)(xs:List υ):Prop:=
 xs.length=n*size/\((n=0/\∃a c,v=ψ a 0 c)\/∃g o cap,v=ψ (σ (Ad g o)) n cap/\n<=cap/\g<w.heap.size/\∀j,j<n*size->w.cell? (Ad g (o+j))=xs[j]?)
section
variable {w w':ω} {size n B:Nat} {v:υ} {xs:List υ}
theorem bz.fM{t:TypeId}(h:w.ownsRow r t size v n xs):bz w size v n xs:=by
 refine⟨h.1,?_⟩;rcases h.2 with⟨j,u⟩|⟨g,cap,cur,e,E,y,C,F⟩
 {exact .inl ⟨u,ν,0,by rw[j]⟩};refine .inr ⟨g,0,cap,e,C,ay y,λD A=>?_⟩;have d:=h;rw[e]at d;rw[gH];exact d.cellAt D A
theorem bz.below(h:bz w size v n xs)(d:δ B w w')(D:w.heap.size<=B):bz w' size v n xs:=by
 refine⟨h.1,?_⟩;rcases h.2 with j|⟨g,o,cap,C,A,u,r⟩
 {exact .inl j};exact .inr ⟨g,o,cap,C,A,ai u d.size,λe y=>(d.cell (p:=(Ad g (o+e))) (by simp;omega)).trans (r e y)⟩
theorem bz.stays(h:bz w size v n xs)(D:w.heap.size<=w'.heap.size)(r:∀a c,v=ψ (σ a) n c->w'.heap[a.block]?=w.heap[a.block]?):bz w' size v n xs:=by
 refine⟨h.1,?_⟩;rcases h.2 with j|⟨g,o,cap,d,A,C,u⟩
 {exact .inl j};refine .inr ⟨g,o,cap,d,A,by omega,λe y=>?_⟩;rw[<- u e y];exact cy (w:=w) (a:=(Ad g (o+e))) (r (Ad g o) cap d)
theorem bz.slice(h:bz w size v n xs):∃a cap,v=ψ a n cap:=by rcases h.2 with⟨e,a,c,d⟩|⟨g,o,cap,d,-⟩;{exact⟨a,c,by rw[d,e]⟩};exact⟨_,cap,d⟩
theorem bz.at(h:bz w size v n xs)(D:0<n):∃g o cap,v=ψ (σ (Ad g o)) n cap/\n<=cap/\g<w.heap.size/\∀d e,xs[d]?=σ e->w.cell? (Ad g (o+d))=σ e:=by rcases h.2 with⟨C,-⟩|⟨g,o,cap,y,r,u,A⟩;{omega};exact⟨g,o,cap,y,r,u,λd e j=>(A d (by rw[<- h.1];exact(aj.mp j).1)).trans j⟩
end
theorem sE{α:Type}(f:α->List υ)(k:Nat)(hf:∀a,(f a).length=k)(l:List α):(l.flatMap f).length=l.length*k:=by induction l with|nil=>simp|cons a l d=>rw[iI,aw,d,hf,aX,oM];omega
theorem ek{α:Type}(f:α->List υ)(k:Nat)(hf:∀a,(f a).length=k)(l:List α){i:Nat}{a:α}(d:l[i]?=σ a){j:Nat}(e:j<k):(l.flatMap f)[i*k+j]?=(f a)[j]?:=by induction l generalizing i with|nil=>simp at d|cons x l r=>rw[iI];cases i with|zero=>(simp at d;subst d;rw[qZ,gH,cD (by rw[hf];exact e)])|succ i=>rw[bp (by rw[hf,oM];omega),hf,show(i+1)*k+j - k=i*k+j by rw[oM];omega];exact r (by simpa using d)
theorem ab2{α:Type}(f:α->List υ)(k:Nat)(hf:∀a,(f a).length=k)(l:List α){i:Nat}{a:α}(d:i<l.length):(l.set i a).flatMap f=(l.flatMap f).take (i*k)++f a++(l.flatMap f).drop (i*k+k):=by induction l generalizing i with|nil=>simp at d|cons x l j=>cases i with|zero=>(rw[ei,iI,iI,qZ,gH,lK,dP,List.drop_append_of_le_length (by rw[hf];exact ae _),lz (by rw[hf];exact ae _),dP])|succ i=>have e:(i+1)*k=(f x).length+i*k:=(by rw[hf,oM];omega);rw[kj,iI,iI,j (by simpa using d),e,List.take_length_add_append,gA,List.drop_length_add_append];simp[List.append_assoc]
section
variable {α:Type} {f:α->List υ} {k:Nat} (hf:∀a,(f a).length=k)
include hf
theorem AV(a:α)(z:υ)(A:z.cells.toList=f a)(y:0<k)(n:Nat):(madeCells z.cells (n*k)).toList=(List.replicate n a).flatMap f:=by
 have j:z.cells.size=k:=by rw[<- cW,A,hf]
 apply cJ;intro d;by_cases u:d<n*k;{have C:d / k<n:=(by rw[Nat.div_lt_iff_lt_mul y];exact u);have e:=Nat.mod_lt d y;have r:=ek f k hf (List.replicate n a) (i:=d / k) (a:=a) (by rw[dy,aF C]) e;rw[show d / k*k+d % k=d by rw[Nat.mul_comm];exact Nat.div_add_mod d k]at r;rw[r,<- A];simp[madeCells,u,j];rw[getElem!_pos _ _ (by rw[j];exact e),eS (by rw[j];exact e)]};rw[aZ (by rw[cW,size_madeCells];omega),aZ (by rw[sE f k hf,j7];omega)]
theorem agv{l:List α}{i:Nat}{a:α}(u:i<l.length){j:List υ}(A:∀d,d<k->j[i*k+d]?=(f a)[d]?)(r:∀d,d<i*k\/i*k+k<=d->j[d]?=(l.flatMap f)[d]?):j=(l.set i a).flatMap f:=by
 have C:=sE f k hf l;have D:i*k+k<=l.length*k:=by have:=gV k (Nat.succ_le_of_lt u);rw[q6]at this;exact this
 rw[ab2 f k hf l u];apply cJ;intro d;have e:((l.flatMap f).take (i*k)).length=i*k:=by rw[bV,C];omega
 by_cases h:d<i*k;{rw[r d (.inl h),bN,cD (by omega),gi,aF h]};by_cases y:d<i*k+k;{have:=A (d - i*k) (by omega);rw[show i*k+(d - i*k)=d by omega]at this;rw[this,cD (by rw[aw,e,hf];exact y),bp (by omega),e]};rw[r d (.inr (by omega)),bp (by rw[aw,e,hf];omega),aw,e,hf,jg,show i*k+k+(d - (i*k+k))=d by omega]
end
def ph(c:aB):List υ:=[.bool c.null,ι κ c.n,θ c.s]
def lg(c:aB):υ:=χ #[.bool c.null,ι κ c.n,θ c.s]
def bJ(l:List aB):List υ:=l.flatMap ph
theorem rQ(c:aB):(ph c).length=3:=rfl
def nF(w:ω)(v:υ)(cs:List aB):Prop:=bz w 3 v cs.length (bJ cs)
theorem nF.get{w:ω}{v:υ}{cs:List aB}(h:nF w v cs){i:Nat}{c:aB}(d:cs[i]?=σ c):∃g o cap,v=ψ (σ (Ad g o)) cs.length cap/\w.cell? (Ad g (o+i*3))=σ (.bool c.null)/\w.cell? (Ad g (o+i*3+1))=σ (ι κ c.n)/\w.cell? (Ad g (o+i*3+2))=σ (θ c.s):=by obtain⟨g,o,cap,j,-,-,e⟩:=bz.at h (dF (aI _) (aj.mp d).1);exact⟨g,o,cap,j,e (i*3) _ (ek ph 3 rQ cs d (j:=0) (by decide)),e (i*3+1) _ (ek ph 3 rQ cs d (j:=1) (by decide)),e (i*3+2) _ (ek ph 3 rQ cs d (j:=2) (by decide))⟩
def fl(w:ω)(v:υ)(b:List (List aB)):Prop:=∃vs,bz w 1 v b.length vs/\∀(i:Nat) (cs:List aB),b[i]?=σ cs->∃u,vs[i]?=σ u/\nF w u cs
theorem fl.below{w w':ω}{B:Nat}{v:υ}{b:List (List aB)}(h:fl w v b)(e:δ B w w')(d:w.heap.size<=B):fl w' v b:=by obtain⟨D,j,r⟩:=h;exact⟨D,j.below e d,λi cs A=>by obtain⟨C,u,y⟩:=r i cs A;exact⟨C,u,y.below e d⟩⟩
theorem fl.get{w:ω}{v:υ}{b:List (List aB)}(h:fl w v b){i:Nat}{cs:List aB}(e:b[i]?=σ cs):∃g o cap d,v=ψ (σ (Ad g o)) b.length cap/\w.cell? (Ad g (o+i))=σ d/\nF w d cs:=by obtain⟨D,j,r⟩:=h;obtain⟨d,u,y⟩:=r i cs e;obtain⟨g,o,cap,A,-,-,C⟩:=j.at (dF (aI _) (aj.mp e).1);exact⟨g,o,cap,d,A,C i d u,y⟩
theorem fl.slice{w:ω}{v:υ}{b:List (List aB)}(h:fl w v b):∃a cap,v=ψ a b.length cap:=h.elim λ_ h=>h.1.slice
def nr(n:Nat):υ:=ι κ n
def ia(w:ω)(v:υ)(l:List Nat):Prop:=bz w 1 v l.length (l.map nr)
theorem ia.get{w:ω}{v:υ}{l:List Nat}(h:ia w v l){i n:Nat}(d:l[i]?=σ n):∃g o cap,v=ψ (σ (Ad g o)) l.length cap/\w.cell? (Ad g (o+i))=σ (ι κ n):=by obtain⟨g,o,cap,e,-,-,j⟩:=bz.at h (dF (aI _) (aj.mp d).1);exact⟨g,o,cap,e,j i _ (by rw[aU,d];rfl)⟩
def nz(c:bu):List υ:=[θ c.1,ι κ c.2]
theorem LV(c:bu):(nz c).length=2:=rfl
def eT(w:ω)(v:υ)(cols:List bu):Prop:=bz w 2 v cols.length (cols.flatMap nz)
theorem eT.get{w:ω}{v:υ}{cols:List bu}(h:eT w v cols){i:Nat}{c:bu}(d:cols[i]?=σ c):∃g o cap,v=ψ (σ (Ad g o)) cols.length cap/\w.cell? (Ad g (o+i*2))=σ (θ c.1)/\w.cell? (Ad g (o+i*2+1))=σ (ι κ c.2):=by obtain⟨g,o,cap,j,-,-,e⟩:=bz.at h (dF (aI _) (aj.mp d).1);exact⟨g,o,cap,j,e (i*2) _ (ek nz 2 LV cols d (j:=0) (by decide)),e (i*2+1) _ (ek nz 2 LV cols d (j:=1) (by decide))⟩
theorem eT.below{w w':ω}{B:Nat}{v:υ}{cols:List bu}(h:eT w v cols)(e:δ B w w')(d:w.heap.size<=B):eT w' v cols:=bz.below h e d
theorem eT.slice{w:ω}{v:υ}{cols:List bu}(h:eT w v cols):∃a cap,v=ψ a cols.length cap:=bz.slice h
def zl(cols:List bu)(s:ByteArray):Int:=match Nz cols s with
 |some i=>i
 |none=>-1
theorem agw{cols:List bu}{s:ByteArray}(h:∀(d:Nat) (c:bu),cols[d]?=σ c->jN c.1 s=false):Nz cols s=ν:=by unfold Nz;rw[List.findIdx?_eq_none_iff];intro c e;obtain⟨d,j⟩:=dK e;exact h d c j
theorem agx{cols:List bu}{s:ByteArray}{i:Nat}{c:bu}(u:cols[i]?=σ c)(r:jN c.1 s=true)(h:∀(d:Nat) (c:bu),d<i->cols[d]?=σ c->jN c.1 s=false):Nz cols s=σ i:=by unfold Nz;obtain⟨e,j⟩:=aj.mp u;rw[jx];refine⟨e,by rw[j];exact r,λd y=>?_⟩;have:=h d cols[d] y (af (by omega));simp[this]
def gq(lo hi:Nat)(a b:ω):Prop:=hi<=b.heap.size/\∀k,lo<=k->k<hi->b.heap[k]?=a.heap[k]?
def Enters(n:Nat):Prop:=∀(args:Array υ) (w:ω),Sem.run prog (callFunc n args) w=.ok (.enter n args) w
theorem gq.below{lo:Nat}{a b c:ω}(h:gq lo a.heap.size a b)(e:δ b.heap.size b c):gq lo a.heap.size a c:=⟨ag h.1 e.size,λk j d=>(e.block k (ai d h.1)).trans (h.2 k j d)⟩
theorem gq.of{lo:Nat}{a b:ω}(d:δ a.heap.size a b):gq lo a.heap.size a b:=⟨d.size,λk _ e=>d.block k e⟩
theorem gq.back{lo:Nat}{a b c:ω}(d:δ a.heap.size a b)(h:gq lo b.heap.size b c):gq lo a.heap.size a c:=⟨ag d.size h.1,λk j e=>(h.2 k j (ai e d.size)).trans (d.block k e)⟩
theorem gq.block{lo k:Nat}{a b:ω}{o:Obj}(h:gq lo a.heap.size a b)(e:lo<=k)(d:a.heap[k]?=σ o):b.heap[k]?=σ o:=(h.2 k e (ay d)).trans d
theorem ct{w w':ω}{size n:Nat}{t:TypeId}{v:υ}{xs:List υ}(h:w.ownsRow r t size v n xs)(d:δ w.heap.size w w'):w'.ownsRow r t size v n xs:=h.kept (row:=ν) ⟨d.os,d.tape,d.output,d.size,λk e _=>d.block k e⟩ (by cases h:v.ownBlock<;>simp)
theorem cu{w:ω}{size:Nat}{v:υ}{n:Nat}{xs:List υ}(h:w.ownsRow r j size v n xs):∃a cap,v=ψ a n cap/\(0<n->∃g,a=σ (Ad g 0)/\r<=g)/\n<=cap:=by rcases h.2 with⟨rfl,rfl⟩|⟨g,cap,cur,rfl,d,_,e,_⟩;{exact⟨ν,0,rfl,λh=>by omega,by omega⟩};exact⟨_,cap,rfl,λ_=>⟨g,rfl,d⟩,e⟩
theorem dV{w w':ω}{size n:Nat}{t:TypeId}{v:υ}{xs:List υ}{row:Option Nat}(h:w.ownsRow r t size v n xs)(j:w.grownBy w' row)(e:∀k,row=σ k->v.ownBlock≠σ k):w'.ownsRow r t size v n xs:=h.kept j (by
 cases u:v.ownBlock with
 |none=>exact .inl rfl
 |some k=>exact .inr (λd=>e k d.symm u))
theorem cell0{w:ω}{q:Nat}{cs:Array υ}{t:TypeId}(h:w.heap[q]?=σ (ξ cs t (0,0)))(i:Nat):w.cell? (Ad q i)=cs[i]?:=by simp[World.cell?,h]
theorem fP{w:ω}{q:Nat}{cs:Array υ}{t:TypeId}(h:w.heap[q]?=σ (ξ cs t (0,0)))(i:Nat):w.frozen? (Ad q i)=false:=by simp[World.frozen?,h]
theorem jc{t:TypeId}{z:υ}(h:(W.info? t).map (λi=>(i.zero,i.size,i.bytes))=σ (σ z,r,V)):∃i,W.info? t=σ i/\i.zero=σ z/\i.size=r/\i.bytes=V:=by cases hi:W.info? t with|none=>rw[hi]at h;cases h|some i=>rw[hi]at h;simp at h;exact⟨i,rfl,h.1,h.2.1,h.2.2⟩
theorem WC{w:ω}{ops:Array Oper}{rest:List Oper}{o:Oper}{a:Act}{r:Exit->Act->ω->Prop}(H:o.guard=ν)(s x:Operand)(t:TypeId)
 (M:o.op=.call { callee:=.builtin .append,args:=#[s,x],argTypes:=#[t,t] }) {base:Nat}  {z:υ} {size bytes:Nat} (P:W.underlying t=σ (.slice j)) (F:(W.info? j).map (λi=>(i.zero,i.size,i.bytes))=σ (σ z,size,bytes)) (e:z.cells.size=size/\0<size/\bytes<=1000)
 {v:υ} {n:Nat} {xs:List υ} (O:a.eval s=v) (y:w.ownsRow base j size v n xs) {d:Array υ} {N:Nat} (Q:a.eval x=ψ (σ (Ad N 0)) 1 1) (G:N=w.heap.size) (u:d.size=size) (A:∀V∈d.toList,V.oneCell'=true) (K:n+1<=100000) (Y:base<=w.heap.size)
 (h:∀g cap w',w'.ownsRow base j size (ψ (σ (Ad g 0)) (n+1) cap) (n+1) (xs++d.toList)->(w.alloc (ξ d j)).grownBy w' v.ownBlock->(v.ownBlock=σ g\/w.heap.size+1<=g)->wpList W ops r rest (a.put o.dst (ψ (σ (Ad g 0)) (n+1) cap)) w'):wpList W ops r (o::rest) a (w.alloc (ξ d j)):=by subst G;obtain⟨i,I,R,T,U⟩:=jc F;refine cP _ H s x t M base j i z size bytes P I R T U e.1 e.2.1 v n xs O (y.alloc _) (Ad w.heap.size 0) 1 1 d.toList Q (by rw[cW,u,Nat.one_mul]) (World.news_of_block (ak w (ξ d j))) A (by decide) (by unfold maxLen;omega) (ag (lL K e.2.2) (by decide)) (by simp;omega) ?_;intro g cap w' C D E;exact h g cap w' C D (by simpa using E)
theorem ak2(c:bu)(s:ByteArray)(q:Nat)(w:ω)(r:w.cell? ⟨q,0,ν⟩=σ (θ s))(j:q<w.heap.size):Calls prog 198 #[χ #[θ c.1,ι κ c.2],π (σ ⟨q,0,ν⟩)] w λu w'=>u=τ (.bool (jN c.1 s))/\δ w.heap.size w w':=by have d:δ w.heap.size w (w.alloc (ξ #[θ c.1,ι κ c.2] 202)):=(ah _ _).alloc (ae _) _;have y:=(d.cell (p:=⟨q,0,ν⟩) j).trans r;have e:=d;have A:(c.1.toList==s.toList)=jN c.1 s:=nE c.1 s;go_in;go_wp2_with fail;(try(go_quiet(fail);go_wp2_with fail));go_ret;exact⟨rfl,by repeat(first|exact e|refine aH ?_|refine below_drewN ?_ _)⟩
theorem agy(cols:List bu)(v:υ)(s:ByteArray)(q:Nat)(w:ω)(D:eT w v cols)(hl:cols.length<=100000)(T:w.cell? ⟨q,0,ν⟩=σ (θ s))(C:q<w.heap.size):Calls prog 197 #[v,.func (.func 198) #[] #[π (σ ⟨q,0,ν⟩)]] w λF w'=>F=τ (ι κ (zl cols s))/\δ w.heap.size w w':=by
 have I:=D;have O:=au T;have⟨va,Y,U⟩:=D.slice;subst U;go_in;go_wp2;go_loopw[8] (λc wr=>∃i:Nat,i<=cols.length/\c=ι κ i/\Hid (δ w.heap.size w wr)/\Hid (∀(d:Nat) (c:bu),d<i->cols[d]?=σ c->jN c.1 s=false)) (λc _=>cols.length - (intOf c).toNat);case atStart=>exact⟨0,aI _,rfl,au (ah _ _),au (λd c r _=>by omega)⟩
 case round=>obtain⟨i,Z,rfl,e,y⟩:=hrel;by_cases Q:i<cols.length;{have V:(i:Int)<cols.length:=(by omega);obtain⟨c,G⟩:∃c,cols[i]?=σ c:=⟨cols[i],af Q⟩;have⟨g,go,cap,j,W,c1⟩:=(I.below e.J (ae _)).get G;cases j;have M:=ak2 c s q wr ((e.J.cell (p:=⟨q,0,ν⟩) C).trans O.J) (ai C e.J.size);have A:=au G;go_wp2_with fail;refine M.mono ?_;rintro F w2 ⟨rfl,R⟩;have E:=e.J.trans (R.mono e.J.size);cases j:jN c.1 s with|true=>(have H:=au (show zl cols s=i from by unfold zl;rw[agx A.J j y.J]);go_wp2;go_ret;exact⟨by rw[H.J];rfl,E⟩)|false=>have K:=au j;go_wp2_with fail;refine⟨⟨i+1,by omega,by go_num,E,au (λd c' r u=>?_)⟩,by simp[intOf];omega⟩;by_cases P:d=i;{subst P;have:=A.J;rw[this]at u;cases u;exact K.J};exact y.J d c' (by omega) u};have V:¬(i:Int)<cols.length:=(by omega);go_wp2;go_ret;refine⟨?_,e.J⟩;have:Nz cols s=ν:=agw (λd c r=>y.J d c (by have:=(aj.mp r).1;omega) r);unfold zl;rw[this];rfl
theorem Dp(cols:List bu)(v:υ)(s:ByteArray)(w:ω)(e:eT w v cols)(A:cols.length<=100000):Calls prog 174 #[v,θ s] w λj w'=>j=τ (ι κ (zl cols s))/\δ w.heap.size w w':=by have d:δ w.heap.size w (w.alloc (ξ #[θ s] 9)):=(ah _ _).alloc (ae _) _;have u:=agy cols v s w.heap.size _ (e.below d (ae _)) A (by have h:=ak w (ξ #[θ s] 9);simp only[World.cell?,h];rfl) (by simp);have r:=d;have⟨va,E,C⟩:=e.slice;subst C;go_in;go_wp2_with fail;refine u.mono ?_;rintro j w1 ⟨rfl,y⟩;have D:=r.trans (y.mono (by simp));go_wp2;go_ret;exact⟨rfl,D⟩
theorem Tryz.ab9:(prog.info? 233).map (λi=>(i.zero,i.size,i.bytes))=σ (σ (χ #[θ ByteArray.empty,ι κ 0,ι κ 0,ι κ 0,ι κ 0,ι κ 0,θ ByteArray.empty]),7,72):=by kernel_rfl
theorem info_parts{t:TypeId}{z:υ}(h:(W.info? t).map (λi=>(i.zero,i.size,i.bytes))=σ (σ z,r,V)):∃i,W.info? t=σ i/\i.zero=σ z/\i.size=r/\i.bytes=V:=by cases hi:W.info? t with|none=>rw[hi]at h;simp at h|some i=>rw[hi]at h;simp at h;exact⟨i,rfl,h.1,h.2.1,h.2.2⟩
theorem agG(n:lh):∀e∈vE n,e.oneCell'=true:=by intro e d;simp[vE]at d;rcases d with rfl|rfl|rfl|rfl|rfl|rfl|rfl<;>rfl
theorem iX.aph{w:ω}{p:Nat}{x:gO}{m:Mode}{ns:List lh}{n:lh}{g cap:Nat}(h:iX d w p x m ns)(j:δ w.heap.size w P)(U:P.heap.size=w.heap.size+2)
 (Q:K.ownsRow 0 233 7 (ψ (σ (Ad g 0)) (ns.length+1) cap) (ns.length+1) (px ns++vE n)) (F:P.grownBy K x.nodes.ownBlock) (G:x.nodes.ownBlock=σ g\/g=w.heap.size+2) :
 iX d (K.setCell (Ad p 19) (ψ (σ (Ad g 0)) (ns.length+1) cap)) p { x with nodes:=ψ (σ (Ad g 0)) (ns.length+1) cap } m (ns++[n])/\
 aY d w (K.setCell (Ad p 19) (ψ (σ (Ad g 0)) (ns.length+1) cap)):=by have H:=h.pen.lt;have D:g≠p:=(by rcases G with u|u;{intro r;subst r;exact h.apart u};omega);have O:¬d g:=(by rcases G with u|u;{exact h.kv g u};intro e;have:=h.old g e;omega);have I:aY d w P:=aY.uz ⟨j.os,j.tape,j.output,j.size,λk e _=>j.block k e⟩ h.old;have E:aY d w K:=I.grown F (λk e=>by have:=h.old k e;omega) (λk r=>h.kv k r);have y:=E.setCell (p:=(Ad p 19)) h.kp (ψ (σ (Ad g 0)) (ns.length+1) cap);have M:uA K p x:=h.pen.kG ((F.block p (by omega) (λr=>h.apart r.symm)).trans (j.block p H));have R:Laid K:=(by intro i s A;exact(E.cell (p:=(Ad 0 i)) h.k0).trans (h.laid i s A));refine⟨⟨M.set 19 _ (by simp[jy]),?_,h.p0,h.Cp,h.pos,h.tk,h.tn,h.tp,?_,?_,?_,h.k0,h.kp,?_,?_⟩,y⟩;{intro i s A;exact(y.cell (p:=(Ad 0 i)) h.k0).trans (h.laid i s A)};{have:=h.mode;cases m<;>exact this};{rw[aw,PT];exact Q.kept (grownBy_setCell K (Ad p 19) _) (.inr (by simp[Value.ownBlock,D]))};{simp[Value.ownBlock,D]};{intro T C;simp[Value.ownBlock]at C;subst C;exact O};intro k e;exact ai (h.old k e) y.size
def aca(x:lh):υ:=χ #[θ x.op,ι κ x.pl,ι κ x.first,ι κ x.a,ι κ x.b,ι κ x.n,θ x.s]
theorem WK{w:ω}{p:Nat}{x:gO}{m:Mode}{ns:List lh}(h:iX d w p x m ns)(n:lh)(xK:ns.length<=1000):Calls prog 101 #[π (σ (Ad p 0)),aca n] w λZ w'=>
 Z=τ (ι κ ns.length)/\∃x',iX d w' p x' m (ns++[n])/\Rest x x'/\aY d w w':=by have⟨R,Q,T,U,V⟩:=info_parts Tryz.ab9;have M:w.cell? (Ad p 19)=σ x.nodes:=h.pen.cell 19;have O:=h.pen.fz 19;have D:=h.pen.lt;have e:=au h;have aa:∀g,x.nodes.ownBlock=σ g->g<w.heap.size:=λg P=>(e.J.own.lt g P).2;have C:=WH w (agr n.op n.pl n.first n.a n.b n.n n.s) (agr n.op n.pl n.first n.a n.b n.n n.s);have s1:=au (World.news_of_block C.2.2.1);have s2:=au (agG n);have K:=au (((e.J.own.alloc (agr n.op n.pl n.first n.a n.b n.n n.s)).alloc (agr n.op n.pl n.first n.a n.b n.n n.s)).drew);have y:=au C.1;have j:=au C.2.2.2;unfold aca;go_in;go_wp2_with fail;go_region_law(refine step_append_lies _ rfl (.tmp 10) (.tmp 12) 39 rfl 0 233 R _ 7 72 underlying39 Q T U V rfl (by decide) _ _ _ (by simp[Act.eval]) K.J (Ad (w.heap.size+1) 0) 1 1 (vE n) (by simp[Act.eval]) rfl s1.J s2.J (by decide) (by unfold maxLen;omega) (by omega) (aI _) (w.heap.size+2) j.J ?_;intro g fS u E r F _;have G:=au E;have H:=au r;have I:=au F;have ab:u.cell? (Ad p 19)=σ x.nodes:=(cy (w':=u) (a:=(Ad p 19)) (r.block p (by rw[j.J];omega) (λA=>e.J.apart A.symm))).trans ((y.J.cell (p:=(Ad p 19)) D).trans M);have kf:u.frozen? (Ad p 19)=false:=(dr (w':=u) (a:=(Ad p 19)) (r.block p (by rw[j.J];omega) (λA=>e.J.apart A.symm))).trans ((y.J.frozen (p:=(Ad p 19)) D).trans O);clear E r F);all_goals go_wp2;go_ret;have⟨W,Y⟩:=iX.aph e.J y.J j.J G.J H.J I.J;exact⟨rfl,_,W,⟨rfl,rfl,rfl,rfl,rfl,rfl,rfl,rfl,rfl,rfl,rfl,rfl⟩,Y⟩
theorem Dt(ns:List lh)(a:Nat)(n:lh)(h:ns[a]?=σ n):(px ns)[a*7+2]?=σ (ι κ n.first):=by rw[Cn ns a 2 (by decide),h];rfl
theorem iX.slice{w:ω}{p:Nat}{x:gO}{m:Mode}{ns:List lh}(h:iX d w p x m ns)(y:0<ns.length) :
 ∃g cap,x.nodes=ψ (σ (Ad g 0)) ns.length cap/\∀e,e<ns.length*7->w.cell? (Ad g e)=(px ns)[e]?:=by rcases h.own.2 with⟨_,u⟩|⟨g,cap,_,j,_⟩;{omega};refine⟨g,cap,j,λe r=>?_⟩;have:=h.own;rw[j]at this;exact this.cellAt e r
theorem ala{w:ω}{p:Nat}{x:gO}{m:Mode}{ns:List lh}(h:iX d w p x m ns)(j:ByteArray)(r a b:Nat)(e:lh)(u:ns[a]?=σ e)(M:ns.length<=1000):Calls prog 73 #[π (σ (Ad p 0)),θ j,ι κ r,ι κ a,ι κ b] w λy w'=>
 y=τ (ι κ ns.length)/\∃x',iX d w' p x' m (ns++[⟨j,r,e.first,a,b,0,⟨#[]⟩⟩])/\Rest x x'/\aY d w w':=by
 have R:a<ns.length:=(aj.mp u).1;have⟨g,cap,I,H⟩:=h.slice (by omega);have O:w.cell? (Ad p 19)=σ (ψ (σ (Ad g 0)) ns.length cap):=(h.pen.cell 19).trans (by rw[<- I];rfl);have P:w.cell? (Ad g (a*7+2))=σ (ι κ e.first):=(H _ (by omega)).trans (Dt ns a e u);have Q:(a:Int)<ns.length:=by omega
 have A:=au h;go_in;go_wp2_with fail;refine(WK A.J ⟨j,r,e.first,a,b,0,⟨#[]⟩⟩ M).mono ?_;rintro y w1 ⟨rfl,K,E,F,G⟩;have C:=au E;have D:=au G;go_wp2;go_ret;exact⟨rfl,K,C.J,F,D.J⟩
theorem PV{w:ω}{p:Nat}{x:gO}{m:Mode}{ns:List lh}(h:iX d w p x m ns)(G:x.deep=8):Calls prog 134 #[π (σ (Ad p 0))] w λj w'=>
 j=τ (.bool false)/\∃x',iX d w' p x' (m.wrong 3) ns/\Rest x x'/\x'.nodes=x.nodes/\aY d w w':=by
 have c4:w.cell? (Ad p 4)=σ (ι κ x.tp):=h.pen.cell 4;have F:w.cell? (Ad p 8)=σ (ι κ x.deep):=h.pen.cell 8;have g2:(8:Int)<=x.deep:=by omega
 have e:=au h;go_in;go_wp2_with fail;refine(Hg e.J 3 x.tp (by decide)).mono ?_;rintro j w1 ⟨rfl,E,y,A,C,D⟩;have r:=au y;have u:=au D;go_wp2;go_ret;refine⟨rfl,E,?_,A,C,u.J⟩;rw[<- zA e.J.mode];exact r.J
theorem agI{w:ω}{p:Nat}{x:gO}{m:Mode}{ns:List lh}(h:iX d w p x m ns)(K:∀t M,m=.live t M->t.k.ends=false)(R:x.deep<8):Calls prog 134 #[π (σ (Ad p 0))] w λj w'=>
 j=τ (.bool true)/\∃x',iX d w' p x' m.next ns/\Rest { x with deep:=x.deep+1 } x'/\x'.nodes=x.nodes/\aY d w w':=by
 have c4:w.cell? (Ad p 4)=σ (ι κ x.tp):=h.pen.cell 4;have P:w.cell? (Ad p 8)=σ (ι κ x.deep):=h.pen.cell 8;have Q:=h.pen.fz 8;have g2:¬(8:Int)<=x.deep:=by omega
 have G:uA (w.setCell (Ad p 8) (ι κ ((x.deep:Int)+1))) p { x with deep:=x.deep+1 }:=h.pen.set 8 _ (by simp[jy]);have e:aY (Other p w) w (w.setCell (Ad p 8) (ι κ ((x.deep:Int)+1))):=(aY.refl _ _).own 8 _;have H:iX d (w.setCell (Ad p 8) (ι κ ((x.deep:Int)+1))) p { x with deep:=x.deep+1 } m ns:=(by refine⟨G,h.laid.keeps e h.p0,h.p0,h.Cp,h.pos,h.tk,h.tn,h.tp,?_,h.own.kept (grownBy_setCell w (Ad p 8) _) (.inr h.apart),h.apart,h.k0,h.kp,h.kv,λk I=>by simpa[World.setCell]using h.old k I⟩;have:=h.mode;cases m<;>exact this);have y:=au (e.mono h.other);have A:=au H;go_in;go_wp2_with fail;refine(Hf A.J K).mono ?_;rintro j w1 ⟨rfl,O,C,D,E,F⟩;have r:=au C;have u:=au F;go_wp2;go_ret;exact⟨rfl,O,r.J,D,E,y.J.trans u.J⟩
def Mode.alive:Mode->Prop
 |.live _ _=>True
 |.dead _ _=>False
def Mode.due:Mode->Nat
 |.live _ _=>0
 |.dead _ _=>1
theorem WL{x:gO}{m:Mode}(h:Co x m){o:ByteArray}(d:m.is o=true):x.tt=o/\x.tp=m.place/\m.alive/\(∀t e,m=.live t e->t.k.ends=false)/\m.next.len+1=m.len:=by cases m with|dead u b=>simp[Mode.is,Mode.tk]at d|live t e=>have r:=Hh d;obtain⟨E,j,C,D,_⟩:=h;obtain⟨k,F⟩:=t;have A:=D r;refine⟨?_,C,trivial,λt e u=>by cases u;exact r,?_⟩;{cases k<;>simp[Mode.is,Mode.tk,kA]at d<;>simp only[nO]at j;{exact j.2.1.trans d};exact j.2.trans d};have y:=AU x.S x.pos;rw[<- A]at y;cases e with|nil=>exact absurd rfl y|cons G H=>rfl
theorem dD{m:Mode}:m.next.len<=m.len:=by cases m with|dead e b=>exact ae _|live t d=>cases d<;>simp[Mode.next,Mode.len]
theorem pG{m:Mode}(h:¬m.alive):m.len=0/\m.due=1:=by cases m with|dead d b=>exact⟨rfl,rfl⟩|live t e=>exact absurd trivial h
theorem sG{m:Mode}(h:m.alive):m.due=0:=by cases m with|dead d b=>exact h.elim|live t e=>rfl
theorem wm(m:Mode):m.due<=1:=by cases m<;>simp[Mode.due]
theorem dz(m:Mode)(d:Nat):¬(m.wrong d).alive:=by cases m<;>exactλh=>h
def lenOf:υ->Nat|.slice _ m _=>m|_=>0
theorem Im{d:Mode->Ex×Mode}{ops:List ByteArray}{f:Nat}{e:Ex}{m:Mode}{j:Ex×Mode}{o:ByteArray}(h:fL d ops (f+1) e m=j)(r:ops.find? (λo=>m.is o)=σ o) :
 fL d ops f (.two o m.place e (d m.next).1) (d m.next).2=j:=by rw[fL,r]at h;exact h
theorem Io{j:Mode->Ex×Mode}{ops:List ByteArray}{f:Nat}{d:Ex}{m:Mode}(e:ops.find? (λo=>m.is o)=ν):fL j ops f d m=(d,m):=by cases f with|zero=>rfl|succ f=>rw[fL,e]
def Du(n:Nm):List υ:=[θ n.1,ι κ n.2]
def EJ(l:List Nm):List υ:=l.flatMap Du
theorem dW(m:Mode):m.name.2.len<=m.len:=by unfold Mode.name;split;{exact dD};rw[(pG (dz m 2)).1];omega
theorem rR{α:Type}{one:Mode->α×Mode}{f:Nat}{l:List α}{m:Mode}{d:List α×Mode}(h:jb one (f+1) l m=d)(e:m.is lT=true):jb one f (l++[(one m.next).1]) (one m.next).2=d:=by rw[jb,aF e]at h;exact h
theorem rS{α:Type}{one:Mode->α×Mode}{f:Nat}{l:List α}{m:Mode}(d:m.is lT=false):jb one f l m=(l,m):=by cases f with|zero=>rfl|succ f=>rw[jb,aE (by rw[d];decide)]
theorem iX.more{r:Nat->Prop}{w:ω}{p:Nat}{x:gO}{m:Mode}{ns:List lh}(h:iX d w p x m ns)(A:r 0)(u:∀k,r k->d k\/(k≠p/\x.nodes.ownBlock≠σ k/\k<w.heap.size)):iX r w p x m ns:=
 ⟨h.pen,h.laid,h.p0,h.Cp,h.pos,h.tk,h.tn,h.tp,h.mode,h.own,h.apart,A,
  λj=>by rcases u p j with e|e;exact h.kp e;exact e.1 rfl,
  λg y j=>by rcases u g j with e|e;exact h.kv g y e;exact e.2.1 y,
  λk j=>by rcases u k j with e|e;exact h.old k e;exact e.2.2⟩
theorem take_len(m:Mode)(s:ByteArray):(m.take s).len<=m.len:=by unfold Mode.take;split;{exact dD};rw[(pG (dz m 2)).1];omega
def Oth(p:Nat)(v:υ)(w:ω)(k:Nat):Prop:=k<w.heap.size/\k≠p/\v.ownBlock≠σ k
structure Fq (p:Nat)(v v':υ)(w w':ω):Prop where
 keeps:aY (Oth p v w) w w'
 own:∀g,v'.ownBlock=σ g->v.ownBlock=σ g\/w.heap.size<=g
structure ND (c x:gO):Prop where
 deep:x.deep=c.deep
 word:x.word=c.word
 names:x.names=c.names
 kinds:x.kinds=c.kinds
 rows:x.rows=c.rows
 fD:x.fD=c.fD
 form:(∃s,x.KU=θ s)/\(∃i,x.KV=ι κ i)/\(∃s,x.KW=θ s)/\(∃i,x.KX=ι κ i)/\∃i,x.cond=ι κ i
structure Rd (o:ω×υ)(w:ω)(p:Nat)(c:gO)(v:υ)(m:Mode)(n:Nat):Prop where
 ex:∃x ns,iX (Oth p v w) w p x m ns/\ND c x/\x.nodes=v/\ns.length=n
 fr:Fq p o.2 v o.1 w
 lo:p<o.1.heap.size
section
variable {o:ω×υ} {w w' w'':ω} {p:Nat} {c x x':gO} {v v' v'':υ} {m m':Mode} {n:Nat} {ns:List lh}
theorem Fq.trans(a:Fq p v v' w w')(b:Fq p v' v'' w' w''):Fq p v v'' w w'':=
 ⟨a.keeps.trans (b.keeps.mono λk d=>⟨ai d.1 a.keeps.size,d.2.1,λe=>(a.own k e).elim d.2.2 (by have:=d.1;omega)⟩),λg e=>(b.own g e).elim (a.own g) λh=>.inr (ag a.keeps.size h)⟩
theorem Fq.refl(p:Nat)(v:υ)(w:ω):Fq p v v w w:=⟨aY.refl _ _,λ_ d=>.inl d⟩
theorem Fq.below(h:δ w.heap.size w w'):Fq p v v w w':=⟨⟨h.os,h.tape,h.output,h.size,λk e=>h.block k e.1⟩,λ_ d=>.inl d⟩
theorem ND.rest(h:ND c x)(d:Rest x x'):ND c x':=
 ⟨d.deep.trans h.deep,d.word.trans h.word,d.names.trans h.names,d.kinds.trans h.kinds,d.rows.trans h.rows,d.fD.trans h.fD,by rw[d.KU,d.KV,d.KW,d.KX,d.cond];exact h.form⟩
theorem Rd.Ip{c':gO}(h:Rd o w p c v m n)(y:ND c' x')(q:iX (Oth p v w) w' p x' m' ns)(k:aY (Oth p v w) w w'):Rd o w' p c' x'.nodes m' ns.length/\Fq p v x'.nodes w w':=by
 have fr:Fq p v x'.nodes w w':=⟨k,λg d=>by
  by_cases r:w.heap.size<=g
  . exact .inr r
  . exact .inl (iA λu=>q.kv g d ⟨by omega,λj=>q.apart (j ▸ d),u⟩)⟩
 have A:=q.pen.lt;have C:=q.p0;exact⟨⟨⟨x',ns,q.more ⟨by omega,by omega,λd=>q.kv 0 d q.k0⟩ (λk e=>.inr ⟨e.2.1,e.2.2,e.1⟩),y,rfl,rfl⟩,h.fr.trans fr,h.lo⟩,fr⟩
theorem Rd.step(h:Rd o w p c v m n)(d:ND c x)(e:Rest x x')(q:iX (Oth p v w) w' p x' m' ns)(k:aY (Oth p v w) w w'):Rd o w' p c x'.nodes m' ns.length/\Fq p v x'.nodes w w':=h.Ip (d.rest e) q k
theorem Rd.is(h:Rd o w p c v m n)(t:ByteArray):Calls prog 35 #[π (σ (Ad p 0)),θ t] w λd w'=>d=τ (.bool (m.is t))/\w=w':=by obtain⟨x,ns,q,_⟩:=h.ex;exact ajs q t
theorem Rd.next(h:Rd o w p c v m n)(j:∀t A,m=.live t A->t.k.ends=false):Calls prog 22 #[π (σ (Ad p 0))] w λd w'=>
 d=τ (.tuple #[])/\Rd o w' p c v m.next n/\Fq p v v w w':=by obtain⟨x,ns,q,r,rfl,rfl⟩:=h.ex;refine(Hf q j).mono ?_;rintro d w' ⟨rfl,x',u,y,e,k⟩;exact⟨rfl,e ▸ h.step r y u k⟩
theorem Rd.fail(h:Rd o w p c v m n)(d b:Nat)(u:d≠0)(r:Hid (m.alive->b=m.place)):Calls prog 24 #[π (σ (Ad p 0)),ι κ d,ι κ b] w λe w'=>
 e=τ (.tuple #[])/\Rd o w' p c v (m.wrong d) n/\Fq p v v w w':=by obtain⟨x,ns,q,y,rfl,rfl⟩:=h.ex;refine(Hg q d b u).mono ?_;rintro e w' ⟨rfl,x',C,D,j,k⟩;have A:m.wrong d=m.fail d b:=(by cases m with|dead _ _=>rfl|live t E=>rw[r.J trivial];rfl);rw[A];exact⟨rfl,j ▸ h.step y D C k⟩
theorem Rd.take(h:Rd o w p c v m n)(t:ByteArray):Calls prog 40 #[π (σ (Ad p 0)),θ t] w λd w'=>
 ∃i:Nat,d=τ (ι κ i)/\Rd o w' p c v (m.take t) n/\Fq p v v w w':=by obtain⟨x,ns,q,j,rfl,rfl⟩:=h.ex;refine(agD q t).mono ?_;rintro d w' ⟨rfl,x',r,u,e,k⟩;exact⟨_,rfl,e ▸ h.step j u r k⟩
theorem Rd.name(h:Rd o w p c v m n):Calls prog 37 #[π (σ (Ad p 0))] w λd w'=>
 ∃(s:ByteArray) (i:Nat),d=τ (χ #[θ s,ι κ i])/\Rd o w' p c v m.name.2 n/\Fq p v v w w':=by obtain⟨x,ns,q,j,rfl,rfl⟩:=h.ex;refine(agF q).mono ?_;rintro d w' ⟨rfl,x',r,u,e,k⟩;exact⟨_,_,rfl,e ▸ h.step j u r k⟩
theorem Rd.node(h:Rd o w p c v m n)(e:lh)(j:n<=1000):Calls prog 101 #[π (σ (Ad p 0)),aca e] w λd w'=>
 ∃v',d=τ (ι κ n)/\Rd o w' p c v' m (n+1)/\Fq p v v' w w':=by obtain⟨x,ns,q,r,rfl,rfl⟩:=h.ex;refine(WK q e j).mono ?_;rintro d w' ⟨rfl,x',u,y,k⟩;have:=h.step r y u k;rw[aw]at this;exact⟨_,rfl,this⟩
theorem Rd.two(h:Rd o w p c v m n)(d:ByteArray)(e a b:Nat)(r:a<n)(u:n<=1000):Calls prog 73 #[π (σ (Ad p 0)),θ d,ι κ e,ι κ a,ι κ b] w λj w'=>
 ∃v',j=τ (ι κ n)/\Rd o w' p c v' m (n+1)/\Fq p v v' w w':=by obtain⟨x,ns,q,y,rfl,rfl⟩:=h.ex;refine(ala q d e a b _ (af r) u).mono ?_;rintro j w' ⟨rfl,x',A,C,k⟩;have:=h.step y C A k;rw[aw]at this;exact⟨_,rfl,this⟩
theorem Rd.PW(h:Rd o w p c v m n)(r:c.deep=8):Calls prog 134 #[π (σ (Ad p 0))] w λe w'=>
 e=τ (.bool false)/\Rd o w' p c v (m.wrong 3) n/\Fq p v v w w':=by obtain⟨x,ns,q,d,rfl,rfl⟩:=h.ex;refine(PV q (d.deep.trans r)).mono ?_;rintro e w' ⟨rfl,x',u,y,j,k⟩;exact⟨rfl,j ▸ h.step d y u k⟩
theorem Rd.down(h:Rd o w p c v m n)(u:∀t D,m=.live t D->t.k.ends=false)(r:c.deep<8):Calls prog 134 #[π (σ (Ad p 0))] w λe w'=>
 e=τ (.bool true)/\Rd o w' p { c with deep:=c.deep+1 } v m.next n/\Fq p v v w w':=by obtain⟨x,ns,q,d,rfl,rfl⟩:=h.ex;refine(agI q u (d.deep.symm ▸ r)).mono ?_;rintro e w' ⟨rfl,x',A,C,j,k⟩;have y:ND { c with deep:=c.deep+1 } { x with deep:=x.deep+1 }:=⟨a7 (·+1) d.deep,d.word,d.names,d.kinds,d.rows,d.fD,d.form⟩;exact⟨rfl,j ▸ h.Ip (y.rest C) A k⟩
theorem Rd.live(h:Rd o w p c v m n){t:ByteArray}(i:m.is t=true):m.alive/\(∀t d,m=.live t d->t.k.ends=false)/\m.next.len+1=m.len:=by obtain⟨x,ns,q,_⟩:=h.ex;exact(WL q.mode i).2.2
theorem Rd.cells(h:Rd o w p c v m n):∃(k:Nat) (t:ByteArray) (i:Nat) (e:Int),w.cell? (Ad p 2)=σ (ι .u8 k)/\w.cell? (Ad p 3)=σ (θ t)/\w.cell? (Ad p 4)=σ (ι κ i)/\w.cell? (Ad p 5)=σ (ι κ e)/\Hid (m.alive->i=m.place):=by obtain⟨x,ns,q,_⟩:=h.ex;refine⟨_,_,_,_,q.pen.cell 2,q.pen.cell 3,q.pen.cell 4,q.pen.cell 5,au λd=>?_⟩;have:=q.mode;cases m with|dead _ _=>exact d.elim|live t j=>exact this.2.2.1
theorem Rd.apj(h:Rd o w p c v m n):lenOf ((w.cell? (Ad p 19)).getD undef)=n:=by obtain⟨x,ns,q,_,_,rfl⟩:=h.ex;rw[q.pen.cell 19];show lenOf x.nodes=ns.length;rcases q.own.2 with⟨e,d⟩|⟨g,cap,_,j,_⟩;{rw[e,d];rfl};rw[j];rfl
theorem Rd.below(h:Rd o w p c v m n)(b:δ w.heap.size w w'):Rd o w' p c v m n:=by obtain⟨x,ns,q,e,rfl,rfl⟩:=h.ex;exact(h.Ip e (q.below b) ⟨b.os,b.tape,b.output,b.size,λk d=>b.block k d.1⟩).1
theorem Rd.drew(h:Rd o w p c v m n):Rd o w.drew p c v m n/\Fq p v v w w.drew:=by obtain⟨x,ns,q,d,rfl,rfl⟩:=h.ex;exact h.Ip d q.drew (aY.refl _ _).drew
theorem Rd.lt(h:Rd o w p c v m n):p<w.heap.size:=by obtain⟨x,ns,q,_⟩:=h.ex;exact q.pen.lt
end
theorem oP{α:Type}{one:Mode->α×Mode}(h:∀m,(one m).2.len<=m.len)(m:Mode):(dk one m).2.len<=m.len:=by have more:∀(f:Nat) (l:List α) (q:Mode),(jb one f l q).2.len<=q.len:=(by intro f;induction f with|zero=>(intro l q;exact ae _)|succ f d=>intro l q;rw[jb];split;{exact ag (d _ _) (ag (h q.next) dD)};exact ae _);exact ag (more _ _ _) (h m)
theorem EK(m:Mode):(jQ m).2.len<=m.len:=oP dW m
theorem AW(m:Mode):(jR m).2.len<=m.len:=by
 have d:m.next.len<=m.len:=dD;have e:m.next.next.len<=m.next.len:=dD;have j:=(pG (dz m 2)).1;have r:=(pG (dz m.next 2)).1;unfold jR;repeat' split
 all_goals(simp only;omega)
theorem Dv(m:Mode):(rF m).2.len<=m.len:=by have d:m.next.len<=m.len:=dD;unfold rF;split;{exact d};split;{exact d};exact take_len m WA
theorem vF(m:Mode):(eC m).2.len<=m.len:=by unfold eC;show(if m.name.2.is Ij then m.name.2.next else m.name.2).len<=m.len;split;{exact ag dD (dW m)};exact dW m
theorem LW{f:Nat}{l:List wj}{m:Mode}{d:List wj×Mode}(h:mW (f+1) l m=d)(e:m.is cq=true):mW f (l++[(kW m).1]) (kW m).2=d:=by rw[mW,aF e]at h;exact h
theorem LX{f:Nat}{l:List wj}{m:Mode}(d:m.is cq=false):mW f l m=(l,m):=by cases f with|zero=>rfl|succ f=>rw[mW,aE (by rw[d];decide)]
theorem zC(m:Mode):(kW m).2.len<=(m.take cq).len:=ag (take_len _ _) (oP AW _)
theorem FI{f:Nat}{l:List eZ}{m:Mode}{d:List eZ×Mode}(h:cO (f+1) l m=d)(e:m.is me=true):cO f (l++[(cH m.next).1]) (cH m.next).2=d:=by rw[cO,aF e]at h;exact h
theorem zD{f:Nat}{l:List eZ}{m:Mode}(d:m.is me=false):cO f l m=(l,m):=by cases f with|zero=>rfl|succ f=>rw[cO,aE (by rw[d];decide)]
theorem au1(a:Int)(w:ω):Calls prog 252 #[ι κ a] w λd w'=>d=τ (.bool false)/\w'=w:=by go_in;go_wp2_with fail;go_ret;exact⟨rfl,rfl⟩
theorem au2(s:ByteArray)(w:ω):Calls prog 253 #[θ s] w λd w'=>d=τ (.bool false)/\w'=w:=by
 have e:(s.toList != s.toList)=false:=by simp
 go_in;go_wp2_with fail;go_ret;exact⟨rfl,rfl⟩
def Qd(a b:Int):Int:=if a<b then -1 else if b<a then 1 else 0
theorem Mb:∀x d:List UInt8,FH x d=if Op.bytesLess x d then -1 else if x==d then 0 else 1
 |[],[]=>rfl
 |[],_::_=>rfl
 |_::_,[]=>rfl
 |a::x,b::d=>by
   have e:=Mb x d;unfold FH Op.bytesLess;by_cases h:a=b
   . subst h
     rw[aF rfl,e];simp
   . rw[aE h]
     by_cases g:a<b
     . simp[g]
     . simp[g,h]
theorem acm(a b:Int)(w:ω):Calls prog 242 #[ι κ a,ι κ b] w λj w'=>j=τ (ι κ (Qd a b))/\w'=w:=by
 have e:=au (show(a<b->Qd a b=-1)/\(¬a<b->b<a->Qd a b=1)/\(¬a<b->¬b<a->Qd a b=0)from⟨λh=>aF h,λh g=>(aE h).trans (aF g),λh g=>(aE h).trans (aE g)⟩);rcases o9 (a<b)with h|h<;>rcases o9 (b<a)with g|g
 all_goals (first|have d:=au (e.J.1 h)|have d:=au (e.J.2.1 h g)|have d:=au (e.J.2.2 h g));go_in;go_wp2_with(first|(go_at_call 252;refine(au1 _ _).mono ?_;rintro j w' ⟨rfl,rfl⟩));go_ret;exact⟨by rw[d.J];rfl,rfl⟩
theorem acn(a b:ByteArray)(w:ω):Calls prog 243 #[θ a,θ b] w λd w'=>d=τ (ι κ (FH a.toList b.toList))/\w'=w:=by rw[Mb];cases h:Op.bytesLess a.toList b.toList<;>cases g:a.toList==b.toList;all_goals go_in;go_wp2_with(first|(go_at_call 253;refine(au2 _ _).mono ?_;rintro d w' ⟨rfl,rfl⟩));go_ret;exact⟨rfl,rfl⟩
def orI(a b:Int):Int:=if a=0 then b else a
theorem alp(a b:Int)(g cap:Nat)(w:ω)(F:w.cell? ⟨g,0,ν⟩=σ (ι κ a))(G:w.cell? ⟨g,1,ν⟩=σ (ι κ b)):Calls prog 241 #[ψ (σ ⟨g,0,ν⟩) 2 cap] w λE w'=>E=τ (ι κ (orI a b))/\δ w.heap.size w w':=by
 go_in;go_wp2_with fail;go_loopw[5,8] (λ_ c wr=>∃i:Nat,i<=2/\c=ι κ i/\wr=w/\Hid ((1<=i->a=0)/\(2<=i->b=0))) (λ_ c _=>2 - (intOf c).toNat);case atStart=>exact⟨0,by omega,rfl,rfl,au ⟨λh=>by omega,λh=>by omega⟩⟩
 case round=>obtain⟨i,H,rfl,rfl,r⟩:=hrel;have D:i=0\/i=1\/i=2:=(by omega);rcases D with rfl|rfl|rfl;{by_cases e:a=0;{have d:=au e;have A:(a != 0)=false:=(by rw[e];rfl);clear e;go_wp2_with fail;exact⟨⟨1,by omega,by go_num,by first|rfl|trivial,au ⟨λ_=>d.J,λh=>by omega⟩⟩,by simp[intOf]⟩};have d:=au (show orI a b=a from aE e);have A:(a != 0)=true:=(by rw[jD];exact e);clear e;go_wp2_with fail;go_ret;exact⟨by rw[d.J];rfl,ah _ _⟩};{have u:=au (r.J.1 (ae _));by_cases j:b=0;{have y:=au j;have C:(b != 0)=false:=(by rw[j];rfl);clear j;go_wp2_with fail;exact⟨⟨2,by omega,by go_num,by first|rfl|trivial,au ⟨λ_=>u.J,λ_=>y.J⟩⟩,by simp[intOf]⟩};have d:=au (show orI a b=b from aF u.J);have C:(b != 0)=true:=(by rw[jD];exact j);clear j;go_wp2_with fail;go_ret;exact⟨by rw[d.J];rfl,ah _ _⟩};have d:=au (show orI a b=0 from(aF (r.J.1 (by omega))).trans (r.J.2 (by omega)));go_wp2_with fail;go_ret;exact⟨by rw[d.J];rfl,ah _ _⟩
def Qe(l r:aB):Int:=orI (Qd l.n r.n) (FH l.s.toList r.s.toList)
theorem aS{w1:ω}{a b:υ}{t:TypeId}(h:w1.heap[r]?=σ (ξ #[a,b] t (0,0))):w1.cell? ⟨r,0,ν⟩=σ a/\w1.cell? ⟨r,1,ν⟩=σ b:=by simp[World.cell?,h]
theorem lx{w1:ω}{a b c:υ}{t:TypeId}(h:w1.heap[r]?=σ (ξ #[a,b,c] t (0,0))):w1.cell? ⟨r,0,ν⟩=σ a/\w1.cell? ⟨r,1,ν⟩=σ b/\w1.cell? ⟨r,2,ν⟩=σ c:=by simp[World.cell?,h]
abbrev dm:=aB ⊕ Nat
def kX:dm->List υ
 |.inl c=>[.bool c.null,ι κ c.n,θ c.s,ι κ 0,ι κ 0]
 |.inr p=>[.bool false,ι κ 0,θ ⟨#[]⟩,ι κ 9,ι κ p]
def zI(o:dm):υ:=.agg (kX o).toArray
theorem sK(o:dm):(kX o).length=5:=by cases o<;>rfl
theorem j9(o:dm):∃x e z d p,kX o=[.bool x,ι κ e,θ z,ι κ d,ι κ p]/\zI o=χ #[.bool x,ι κ e,θ z,ι κ d,ι κ p]:=by cases o<;>exact⟨_,_,_,_,_,rfl,rfl⟩
def Mc:dm:=.inl ⟨false,0,⟨#[]⟩⟩
def rowOf(b:List (List aB))(r:Nat):List aB:=b.map λcs=>cs.getD r gp
def xT(b:List (List aB))(rows:List Nat):Prop:=∀r∈rows,∀cs∈b,r<cs.length
def dX(a:ω)(lo:Nat)(fv:υ)(ok:List aB->Prop)(F:List aB->dm):Prop:=
 ∃n caps,fv=.func (.func n) #[] caps/\Enters n/\∀b,gq lo a.heap.size a b->∀bv cs rv rows,fl b bv cs->ia b rv rows->xT cs rows->rows.length<=64->(∀r∈rows,ok (rowOf cs r))->
   Calls prog n (#[bv,rv]++caps) b λr b'=>∃v,r=τ v/\b'.ownsRow b.heap.size 298 5 v rows.length ((rows.map λr=>F (rowOf cs r)).flatMap kX)/\δ b.heap.size b b'
def acv(a:ω)(lo:Nat)(fv:υ)(ok:List aB->Prop)(G:List aB->aB):Prop:=
 ∃n caps,fv=.func (.func n) #[] caps/\Enters n/\∀b,gq lo a.heap.size a b->∀bv cs (r:Nat),fl b bv cs->xT cs [r]->ok (rowOf cs r)->
   Calls prog n (#[bv,ι κ r]++caps) b λe b'=>e=τ (lg (G (rowOf cs r)))/\δ b.heap.size b b'
theorem Qi{l:List dm}{i:Nat}(u:i<l.length)(o:dm){a b c:υ}(h:kX o=[a,b,c,y,e]):(((((l.flatMap kX).set (i*5) a).set (i*5+1) b).set (i*5+2) c).set (i*5+3) y).set (i*5+4) e=(l.set i o).flatMap kX:=by have j:=sE kX 5 sK l;refine agv sK u (λd A=>?_) (λd A=>?_);{have r:d=0\/d=1\/d=2\/d=3\/d=4:=(by omega);generalize l.flatMap kX=xs at j;rw[h];rcases r with rfl|rfl|rfl|rfl|rfl<;>simp[List.getElem?_set]<;>omega};generalize l.flatMap kX=xs at j;rw[bI,aE (by omega),bI,aE (by omega),bI,aE (by omega),bI,aE (by omega),bI,aE (by omega)]
theorem acw{l:List dm}{i:Nat}(j:l[i]?=σ Mc)(c:aB):(((l.flatMap kX).set (i*5) (.bool c.null)).set (i*5+1) (ι κ c.n)).set (i*5+2) (θ c.s)=(l.set i (.inl c)).flatMap kX:=by rw[<- Qi (aj.mp j).1 (.inl c) rfl];have h:=ek kX 5 sK l j (j:=3) (by decide);have e:=ek kX 5 sK l j (j:=4) (by decide);generalize l.flatMap kX=xs at h e;have y:=(aj.mp h).1;have u:=(aj.mp e).1;apply cJ;intro r;by_cases d:i*5+4=r;{subst d;rw[bI,aE (by omega),bI,aE (by omega),bI,aE (by omega),bI,aF rfl,e,aF (by simpa using u)];rfl};rw[bI (i:=i*5+4),aE d];by_cases d:i*5+3=r;{subst d;rw[bI,aE (by omega),bI,aE (by omega),bI,aE (by omega),bI,aF rfl,h,aF (by simpa using y)];rfl};rw[bI (i:=i*5+3),aE d]
theorem kQ{w:ω}{g cap n:Nat}{t:TypeId}{l:List dm}{i:Nat}{o:dm}{a b c:υ}(h:w.ownsRow r t 5 (ψ (σ (Ad g 0)) n cap) n (l.flatMap kX))(j:l[i]?=σ o)(A:kX o=[a,b,c,y,e]):(w.cell? (Ad g (i*5))=σ a/\w.cell? (Ad g (i*5+1))=σ b/\w.cell? (Ad g (i*5+2))=σ c/\w.cell? (Ad g (i*5+3))=σ y/\w.cell? (Ad g (i*5+4))=σ e)/\∀d,w.frozen? (Ad g d)=false:=by
 have E:=sE kX 5 sK l;have D:l.length=n:=by have:=h.1;omega
 have C:=(aj.mp j).1;have k:∀d (u:d<5),w.cell? (Ad g (i*5+d))=[a,b,c,y,e][d]?:=λd u=>by
  rw[h.cellAt _ (by omega),<- A];exact ek kX 5 sK l j u
 exact⟨⟨k 0 (by decide),k 1 (by decide),k 2 (by decide),k 3 (by decide),k 4 (by decide)⟩,λd=>h.frozenAt d⟩
def FO(f:Nat->dm)(rows:List Nat)(i:Nat):List dm:=(rows.take i).map f++List.replicate (rows.length - i) Mc
theorem Qj{f:Nat->dm}{i:Nat}(h:i<u.length):(FO f u i)[i]?=σ Mc:=by
 unfold FO;have d:((u.take i).map f).length=i:=by simp;omega
 rw[bp (by omega),dy,aF (by omega)]
theorem YV{f:Nat->dm}{i:Nat}(h:u[i]?=σ r):(FO f u i).set i (f r)=FO f u (i+1):=by
 obtain⟨e,j⟩:=aj.mp h;unfold FO;have d:((u.take i).map f).length=i:=by simp;omega
 rw[show u.length - i=(u.length - (i+1))+1 by omega,iE,eM _ _ (by omega),d,du,ei,dx,h];simp
theorem K9(d b:Int)(w:ω):Calls prog 27 #[χ #[ι κ d,ι κ b]] w λe w'=>e=τ (.bool (d != 0))/\δ w.heap.size w w':=by go_in;go_wp2_with fail;go_ret;exact⟨rfl,(ah _ _).alloc (ae _) _⟩
structure Ow (b w:ω)(va:Option Addr)(cap n:Nat)(l:List dm):Prop where
 own:w.ownsRow b.heap.size 298 5 (ψ va n cap) n (l.flatMap kX)
 uk:δ b.heap.size b w
abbrev Qk(w:World)(g i:Nat)(x:Bool)(y:Int)(z:ByteArray)(e p:Int):World:=((((w.setCell (Ad g i) (.bool x)).setCell (Ad g (i+1)) (.int .i64 y)).setCell (Ad g (i+2)) (.string z)).setCell (Ad g (i+3)) (.int .i64 e)).setCell (Ad g (i+4)) (.int .i64 p)
section
variable {b w w':ω} {va:Option Addr} {cap n g i:Nat} {l:List dm} {o:dm}
theorem Ow.below(h:Ow b w va cap n l)(d:δ w.heap.size w w'):Ow b w' va cap n l:=⟨ct h.own d,h.uk.trans (d.mono h.uk.size)⟩
theorem Ow.alloc(h:Ow b w va cap n l)(o:Obj):Ow b (w.alloc o) va cap n l:=h.below ((ah _ _).alloc (ae _) _)
theorem Ow.put(h:Ow b w (σ (Ad g 0)) cap n l)(r:i<n)(o:dm){x:Bool}{y:Int}{z:ByteArray}{e p:Int}(j:kX o=[.bool x,ι κ y,θ z,ι κ e,ι κ p]):Ow b (Qk w g (i*5) x y z e p) (σ (Ad g 0)) cap n (l.set i o):=by
 have A:=sE kX 5 sK l;have u:l.length=n:=by have:=h.own.1;omega
 have d:b.heap.size<=g:=(cu h.own).elim λ_ ⟨_,e,k,_⟩=>by cases e;obtain⟨_,e,k⟩:=k (by omega);cases e;exact k
 refine⟨?_,((((h.uk.setCell d _).setCell d _).setCell d _).setCell d _).setCell d _⟩;rw[<- Qi (by omega) o j];exact(((((h.own.stored _ _).1.stored _ _).1.stored _ _).1.stored _ _).1.stored _ _).1
theorem alA{z m:Nat}{t:TypeId}{v:υ}{xs:List υ}(h:w.ownsRow r t z v m xs)(d:v.ownBlock≠σ g){x:Bool}{s:ByteArray}{e p:Int}:(Qk w g i x I s e p).ownsRow r t z v m xs:=
 lN (lN (lN (lN (lN h d _) d _) d _) d _) d _
end
theorem Tryz.acx:(prog.info? 298).map (λi=>(i.zero,i.size,i.bytes))=σ (σ (zI Mc),5,48):=by kernel_rfl
theorem alB{a b:ω}{lo q:Nat}{t:TypeId}{ok:List aB->Prop}{j:List aB->aB}(hc:acv a lo y ok j)(hk:gq lo a.heap.size a b)(I:b.heap[q]?=σ (ξ #[y] t (0,0))){cs:List (List aB)}(hb:fl b e cs)(K:ia b T u)(oO:xT cs u)(hl:u.length<=64)(lP:∀d∈u,ok (rowOf cs d)) :
 Calls prog 152 #[e,T,π (σ (Ad q 0))] b λd F=>∃v,d=τ v/\F.ownsRow b.heap.size 298 5 v u.length ((u.map λd=>.inl (j (rowOf cs d))).flatMap kX)/\δ b.heap.size b F:=by
 obtain⟨n,aa,rfl,hE,hC⟩:=hc;obtain⟨i0,zr,lU,lV,lk⟩:=jc Tryz.acx;obtain⟨ra,sL,Q⟩:=bz.slice K;subst Q;have R:=au hC;have V:=au I;have U:=au lP;have W:=ay I;unfold Enters at hE;go_in;go_wp2_with(at_make;refine eI _ rfl _ _ 296 rfl b.heap.size 298 i0 _ 5 underlying296 zr lU lV _ _ _ _ u.length rfl rfl rfl rfl (by rw[lk];omega) (by unfold maxLen;omega) (by simp) ?_;intro w1 H cx);rw[AV sK Mc (zI Mc) rfl (by decide)]at H;have cG:δ b.heap.size b w1:=(ah _ _).grown cx (ae _) (by simp);go_wp2_with fail;go_loopw[14] (λc wr=>∃i:Nat,i<=u.length/\c=ι κ i/\Hid (wr.ownsRow b.heap.size 298 5 (ψ (σ (Ad b.heap.size 0)) u.length u.length) u.length ((FO (λd=>.inl (j (rowOf cs d))) u i).flatMap kX))/\Hid (δ b.heap.size b wr)) (λc _=>u.length - (intOf c).toNat);case atStart=>exact⟨0,aI _,rfl,au (by simpa[FO]using H),cG⟩
 case round=>obtain⟨i,hi,rfl,E,r⟩:=hrel;by_cases A:i<u.length;{have jY:(i:Int)<u.length:=(by omega);obtain⟨d,D⟩:∃d,u[i]?=σ d:=⟨u[i],af A⟩;obtain⟨g,o,cap,he,c0⟩:=ia.get (bz.below K r.J (ae _)) D;cases he;have P:=aA D;have YW:=R.J wr (hk.below r.J) e cs d (hb.below r.J (ae _)) (λx hx=>by cases a6.mp hx;exact oO d P) (U.J d P);have GI:=cell0 ((r.J.block q W).trans V.J) 0;have Z:=au D;go_wp2_with fail;refine YW.mono ?_;rintro ab w2 ⟨rfl,G⟩;have O:=ct E.J G;obtain⟨⟨d0,d1,d2,d3,d4⟩,fz⟩:=kQ O (Qj A) rfl;have M:=(((O.stored (i*5) (.bool (j (rowOf cs d)).null)).1.stored (i*5+1) (ι κ (j (rowOf cs d)).n)).1.stored (i*5+2) (θ (j (rowOf cs d)).s)).1;rw[acw (Qj A),YV (f:=λd=>.inl (j (rowOf cs d))) Z.J]at M;have jS:=r.J.trans (G.mono r.J.size);unfold lg;go_wp2_with fail;go_roundw;(case rel=>exact⟨i+1,by omega,by go_num,M,au (((jS.setCell (ae _) _).setCell (ae _) _).setCell (ae _) _)⟩);case measure=>simp[intOf];omega};obtain rfl:i=u.length:=(by omega);have C:=E.J;unfold FO at C;rw[du,eo,bX,eU]at C;have Y:=au C;go_wp2_with fail;go_ret;exact⟨_,rfl,Y.J,r.J⟩
def wO(a:ω)(lo:Nat)(fv:υ)(ok:aB->Prop)(W:aB->dm):Prop:=
 ∃n caps,fv=.func (.func n) #[] caps/\Enters n/\∀b,gq lo a.heap.size a b->∀c,ok c->Calls prog n (#[lg c]++caps) b λe b'=>e=τ (zI (W c))/\δ b.heap.size b b'
def xU(a:ω)(lo:Nat)(fv:υ)(ok:aB->aB->Prop)(W:aB->aB->dm):Prop:=
 ∃n caps,fv=.func (.func n) #[] caps/\Enters n/\∀b,gq lo a.heap.size a b->∀c d,ok c d->Calls prog n (#[lg c,lg d]++caps) b λe b'=>e=τ (zI (W c d))/\δ b.heap.size b b'
def rG(W:aB->dm):dm->dm
 |.inl c=>W c
 |.inr e=>.inr e
def mid(f g:Nat->dm)(rows:List Nat)(i:Nat):List dm:=(rows.take i).map f++(rows.drop i).map g
theorem IQ{f g:Nat->dm}{i:Nat}(h:u[i]?=σ r):(mid f g u i)[i]?=σ (g r):=by obtain⟨d,e⟩:=aj.mp h;unfold mid;rw[bp (by simp;omega)];simp[show i - min i u.length=0 by omega,d,e]
theorem NR{f g:Nat->dm}{i:Nat}(h:u[i]?=σ r):(mid f g u i).set i (f r)=mid f g u (i+1):=by
 obtain⟨d,j⟩:=aj.mp h;unfold mid;have e:((u.take i).map f).length=i:=by simp;omega
 rw[cE d,eG,eM _ _ (by omega),e,du,ei,dx,h];simp
theorem Qm{f g:Nat->dm}{i:Nat}(h:u[i]?=σ r)(e:f r=g r):mid f g u i=mid f g u (i+1):=by rw[<- NR h,e];have:=IQ (f:=f) (g:=g) h;apply cJ;intro j;rw[bI];by_cases d:i=j;{subst d;rw[aF rfl,this,aF (aj.mp this).1]};rw[aE d]
theorem alC{a b:ω}{lo q:Nat}{t:TypeId}{ok:List aB->Prop}{aa:aB->Prop}{A:List aB->dm}{C:aB->dm}(hc:dX a lo y ok A)(hw:wO a lo e aa C)(wP:∀row,ok row->∀c,A row=.inl c->aa c)(hk:gq lo a.heap.size a b)(O:b.heap[q]?=σ (ξ #[y] t (0,0)))(P:b.heap[r]?=σ (ξ #[e] j (0,0))){cs:List (List aB)}(hb:fl b T cs)(hr:ia b R u)(oO:xT cs u)(hl:u.length<=64)(lP:∀d∈u,ok (rowOf cs d)) :
 Calls prog 199 #[T,R,π (σ ⟨q,0,ν⟩),π (σ ⟨r,0,ν⟩)] b λd U=>∃v,d=τ v/\U.ownsRow b.heap.size 298 5 v u.length ((u.map λd=>rG C (A (rowOf cs d))).flatMap kX)/\δ b.heap.size b U:=by
 obtain⟨n,ap,rfl,hE,hC⟩:=hc;obtain⟨n2,kH,rfl,al,ad⟩:=hw;have HC:=hC b hk T cs R u hb hr oO hl lP;have HW:=au ad;have La:=au (λd (h:d∈u)=>wP _ (lP d h));have ab:=au P;have c0:=cell0 O 0;simp at c0;have KM:=ay P;unfold Enters at hE al;go_in;go_wp2_with fail;refine HC.mono ?_;rintro I w1 ⟨v,rfl,W,cG⟩;obtain⟨va,Y,rfl,Ue,NS⟩:=cu W;have WO:Hid (Ow b w1 va Y u.length (mid (λd=>rG C (A (rowOf cs d))) (λd=>A (rowOf cs d)) u 0)):=au ⟨by simpa[mid]using W,cG⟩;have ac:=au Ue;go_wp2_with fail;go_loopw[16] (λc wr=>∃i:Nat,i<=u.length/\c=ι κ i/\Hid (Ow b wr va Y u.length (mid (λd=>rG C (A (rowOf cs d))) (λd=>A (rowOf cs d)) u i))) (λc _=>u.length - (intOf c).toNat);case atStart=>exact⟨0,aI _,rfl,WO⟩
 case round=>obtain⟨i,hi,rfl,G⟩:=hrel;by_cases V:i<u.length;{have jY:(i:Int)<u.length:=(by omega);obtain⟨g,rfl,hg⟩:=ac.J (by omega);obtain⟨d,E⟩:∃d,u[i]?=σ d:=⟨u[i],af V⟩;have HM:=au (aA E);have Ql:=au E;cases D:A (rowOf cs d)with|inr I=>(obtain⟨⟨d0,d1,d2,d3,d4⟩,-⟩:=kQ G.J.own (IQ E) (by simp only[D];rfl);have M:=au (Qm (f:=λd=>rG C (A (rowOf cs d))) (g:=λd=>A (rowOf cs d)) E (by simp only[D];rfl));go_wp2_with fail;refine(K9 _ _ _).mono ?_;rintro I w2 ⟨rfl,H⟩;have F:=(G.J.alloc _).below H;go_wp2_with fail;go_roundw;(case rel=>exact⟨i+1,by omega,by go_num,au (by rw[<- M.J];exact F)⟩);case measure=>simp[intOf];omega)|inl c=>obtain⟨⟨d0,d1,d2,d3,d4⟩,-⟩:=kQ G.J.own (IQ E) (by simp only[D];rfl);have M:=au (NR (f:=λd=>rG C (A (rowOf cs d))) (g:=λd=>A (rowOf cs d)) E);have HF:=au (La.J d HM.J c D);have HE:Hid (rG C (A (rowOf cs d))=C c):=au (by rw[D];rfl);go_wp2_with fail;refine(K9 _ _ _).mono ?_;rintro I w2 ⟨rfl,H⟩;have F:=(G.J.alloc _).below H;have K:=H.block wr.heap.size (by simp);rw[ak]at K;have GI:=cell0 ((F.uk.block r KM).trans ab.J) 0;have a0:=cell0 K 0;have a1:=cell0 K 1;have a2:=cell0 K 2;have vG:=HW.J _ (hk.below F.uk) c HF.J;simp only[List.getElem?_toArray,List.getElem?_cons_zero,List.getElem?_cons_succ]at GI a0 a1 a2;unfold lg at vG;go_wp2_with fail;refine vG.mono ?_;rintro I w3 ⟨rfl,iw⟩;have Z:=F.below iw;obtain⟨x,aq,z,er,pl,am,an⟩:=j9 (C c);rw[an];obtain⟨_,_,_,_,_,O,-⟩:=j9 (A (rowOf cs d));obtain⟨⟨e0,e1,e2,e3,e4⟩,fz⟩:=kQ Z.own (IQ Ql.J) O;have jh:=Z.put V (C c) am;rw[<- HE.J,M.J]at jh;go_wp2_with fail;go_roundw;(case rel=>exact⟨i+1,by omega,by go_num,jh⟩);case measure=>simp[intOf];omega};obtain rfl:i=u.length:=(by omega);have D:=G.J;unfold mid at D;rw[eU,gB,mB,bX]at D;have Q:=au D;go_wp2_with fail;go_ret;exact⟨_,rfl,Q.J.own,Q.J.uk⟩
def uI(W:aB->aB->dm):dm->dm->dm
 |.inr e,_=>.inr e
 |.inl _,.inr e=>.inr e
 |.inl l,.inl r=>if l.null||r.null then .inl gp else W l r
structure Tw (b w1 w:ω)(va Tn:Option Addr)(c c2 n:Nat)(l l2:List dm):Prop where
 a:Ow b w va c n l
 b:w.ownsRow w1.heap.size 298 5 (ψ Tn n c2) n (l2.flatMap kX)
section
variable {b w1 w w':ω} {va Tn:Option Addr} {c c2 n g g2 i:Nat} {l l2:List dm}
theorem Tw.below(h:Tw b w1 w va Tn c c2 n l l2)(d:δ w.heap.size w w'):Tw b w1 w' va Tn c c2 n l l2:=⟨h.a.below d,ct h.b d⟩
theorem Tw.put(h:Tw b w1 w (σ (Ad g 0)) (σ (Ad g2 0)) c c2 n l l2)(j:g≠g2)(d:i<n)(o:dm){x:Bool}{y:Int}{z:ByteArray}{e p:Int}(r:kX o=[.bool x,ι κ y,θ z,ι κ e,ι κ p]):Tw b w1 (Qk w g (i*5) x y z e p) (σ (Ad g 0)) (σ (Ad g2 0)) c c2 n (l.set i o) l2:=
 ⟨h.a.put d o r,alA h.b (by simp[Value.ownBlock];exactλe=>j e.symm)⟩
end
abbrev IU(x:Bool)(y:Int)(z:ByteArray)(e p:Int):Obj:=.cells #[.bool x,.int .i64 y,.string z,.int .i64 e,.int .i64 p] 298
theorem gT(w:ω)(o d:Obj):δ w.heap.size w ((w.alloc o).alloc d)/\((w.alloc o).alloc d).heap[w.heap.size+1]?=σ d/\((w.alloc o).alloc d).heap[w.heap.size]?=σ o:=by refine⟨((ah _ _).alloc (ae _) _).alloc (by simp) _,?_,(cw _ _ _ (by simp)).trans (ak w _)⟩;have:=ak (w.alloc o) d;simpa using this
theorem xV{w:ω}{q:Nat}{a b c:υ}{t:TypeId}(h:w.heap[q]?=σ (ξ #[a,b,c,y,e] t (0,0))):w.cell? (Ad q 0)=σ a/\w.cell? (Ad q 1)=σ b/\w.cell? (Ad q 2)=σ c/\w.cell? (Ad q 3)=σ y/\w.cell? (Ad q 4)=σ e:=by simp[World.cell?,h]
theorem alE{a b:ω}{lo q q2 q3:Nat}{t t2 t3:TypeId}{fv gv wv:υ}{ok:List aB->Prop}{am:aB->aB->Prop}{j r:List aB->dm}{u:aB->aB->dm}(hc:dX a lo fv ok j)(Md:dX a lo gv ok r)(hw:xU a lo wv am u)(wP:∀row,ok row->∀c I,j row=.inl c->r row=.inl I->c.null=false->I.null=false->am c I)(hk:gq lo a.heap.size a b)(hq:b.heap[q]?=σ (ξ #[fv] t (0,0)))(Ik:b.heap[q2]?=σ (ξ #[gv] t2 (0,0)))(NT:b.heap[q3]?=σ (ξ #[wv] t3 (0,0))){Q T:υ}{cs:List (List aB)}{e:List Nat}(hb:fl b Q cs)(hr:ia b T e)(oO:xT cs e)(hl:e.length<=64)(lP:∀d∈e,ok (rowOf cs d)) :
 Calls prog 225 #[Q,T,π (σ (Ad q 0)),π (σ (Ad q2 0)),π (σ (Ad q3 0))] b λd b'=>∃v,d=τ v/\b'.ownsRow b.heap.size 298 5 v e.length ((e.map λd=>uI u (j (rowOf cs d)) (r (rowOf cs d))).flatMap kX)/\δ b.heap.size b b':=by
 obtain⟨n,b0,rfl,hE,hC⟩:=hc;obtain⟨n1,zJ,rfl,bl,bg⟩:=Md;obtain⟨n2,kH,rfl,bm,bi⟩:=hw;have HC:=hC b hk Q cs T e hb hr oO hl lP;have ap:=au (λw (D:δ b.heap.size b w)=>bg w (hk.below D) Q cs T e (hb.below D (ae _)) (bz.below hr D (ae _)) oO hl lP);have HW:=au bi;have La:=au (λd (h:d∈e)=>wP _ (lP d h));have aq:=au Ik;have ar:=au NT;have Y:=cell0 hq 0;simp at Y;have a5:=ay Ik;have a8:=ay NT;unfold Enters at hE bl bm;go_in;go_wp2_with fail;refine HC.mono ?_;rintro y w1 ⟨v,rfl,cj,D⟩;obtain⟨va,dG,rfl,Ue,NS⟩:=cu cj;have c1:=cell0 ((D.block q2 a5).trans aq.J) 0;simp at c1;have ba:=au (ap.J w1 D);have ax:=au Ue;go_wp2_with fail;refine ba.J.mono ?_;rintro y w2 ⟨v2,rfl,FP,cV⟩;obtain⟨Tn,Me,rfl,ac,bx⟩:=cu FP;have bb:Hid (∀g g2,va=σ (Ad g 0)->Tn=σ (Ad g2 0)->0<e.length->g≠g2):=au (λg g2 h1 h2 h0=>by
  have b2:g<w1.heap.size:=by
   have M:=cj;rcases M.2 with⟨h,-⟩|⟨g',Bu,cur,h,-,aC,-⟩
   . rw[h1]at h;cases h
   . rw[h1]at h;cases h;exact ay aC
  have⟨g',h3,h4⟩:=ac h0;rw[h2]at h3
  cases h3
  omega)
 have av:Hid (Tw b w1 w2 va Tn dG Me e.length (mid (λd=>uI u (j (rowOf cs d)) (r (rowOf cs d))) (λd=>j (rowOf cs d)) e 0) (e.map λd=>r (rowOf cs d))):=au ⟨⟨by simpa[mid]using ct cj cV,D.trans (cV.mono D.size)⟩,FP⟩;have a9:=au ac;go_wp2;go_loopw[21] (λc wr=>∃i:Nat,i<=e.length/\c=ι κ i/\Hid (Tw b w1 wr va Tn dG Me e.length (mid (λd=>uI u (j (rowOf cs d)) (r (rowOf cs d))) (λd=>j (rowOf cs d)) e i) (e.map λd=>r (rowOf cs d)))) (λc _=>e.length - (intOf c).toNat);case atStart=>exact⟨0,aI _,rfl,av⟩
 case round=>
  obtain⟨i,hi,rfl,P⟩:=hrel;by_cases cQ:i<e.length
  .have jY:(i:Int)<e.length:=(by omega);obtain⟨g,rfl,hg⟩:=ax.J (by omega);obtain⟨g2,rfl,tR⟩:=a9.J (by omega);have W8:=au (bb.J g g2 rfl rfl (by omega));obtain⟨d,O⟩:∃d,e[i]?=σ d:=⟨e[i],af cQ⟩;have HM:=au (aA O);have bc:(e.map λd=>r (rowOf cs d))[i]?=σ (r (rowOf cs d)):=(by rw[aU,O];rfl);have W:=au (IQ (f:=λd=>uI u (j (rowOf cs d)) (r (rowOf cs d))) (g:=λd=>j (rowOf cs d)) O);have U:=au (NR (f:=λd=>uI u (j (rowOf cs d)) (r (rowOf cs d))) (g:=λd=>j (rowOf cs d)) O);have Xa:=au (Qm (f:=λd=>uI u (j (rowOf cs d)) (r (rowOf cs d))) (g:=λd=>j (rowOf cs d)) O);obtain⟨x1,y1,z1,e1,p1,E,-⟩:=j9 (j (rowOf cs d));obtain⟨x2,y2,z2,e2,p2,A,-⟩:=j9 (r (rowOf cs d));obtain⟨⟨d0,d1,d2,d3,d4⟩,-⟩:=kQ P.J.b bc A;obtain⟨⟨u0,u1,u2,u3,u4⟩,-⟩:=kQ (P.J.a.alloc (IU x2 y2 z2 e2 p2)).own W.J E;have ab:=au E;have F:=au (gT wr (IU x2 y2 z2 e2 p2) (IU x1 y1 z1 e1 p1));go_wp2_with fail;refine(K9 _ _ _).mono ?_;rintro y w3 ⟨rfl,G⟩;have⟨a0,a1,a2,a3,a4⟩:=xV ((G.block _ (by simp;omega)).trans F.J.2.2);have⟨Y,c1,c2,c3,c4⟩:=xV ((G.block _ (by simp)).trans F.J.2.1);have ad:=P.J.below (F.J.1.trans (G.mono F.J.1.size));have bd:wr.heap.size+2<=w3.heap.size:=(by simpa using G.size);have HA:=au (G.block wr.heap.size (by simp;omega) |>.trans F.J.2.2);have HB:=au (G.block (wr.heap.size+1) (by simp) |>.trans F.J.2.1);cases hf:j (rowOf cs d)with
   |inr y=>have Qh:=au (Xa.J (show uI u (j (rowOf cs d)) (r (rowOf cs d))=j (rowOf cs d)by rw[hf];rfl));rw[hf]at E;simp[kX]at E;obtain⟨-,-,-,rfl,-⟩:=E;go_wp2;go_roundw;(case rel=>exact⟨i+1,by omega,by go_num,au (by rw[<- Qh.J];exact ad)⟩);case measure=>simp[intOf];omega
   |inl c=>
    rw[hf]at E;simp[kX]at E;obtain⟨Mf,al,lV,rfl,rfl⟩:=E;go_wp2_with fail;refine(K9 _ _ _).mono ?_;rintro y w4 ⟨rfl,R⟩;have aa:=ad.below R;have⟨⟨t0,t1,t2,t3,t4⟩,fz⟩:=kQ aa.a.own W.J ab.J;have⟨a0,a1,a2,a3,a4⟩:=xV ((R.block _ (by omega)).trans HA.J);have⟨Y,c1,c2,c3,c4⟩:=xV ((R.block _ (by omega)).trans HB.J);have V:=aa;have HP:=au (λ(o:dm) x an z y p h=>aa.put W8.J cQ o (x:=x) (y:=an) (z:=z) (e:=y) (p:=p) h);have bw:wr.heap.size+2<=w4.heap.size:=ag bd R.size;cases lW:r (rowOf cs d)with
    |inr y=>have H:=au (show uI u (j (rowOf cs d)) (r (rowOf cs d))=.inr y by rw[hf,lW];rfl);rw[lW]at A;have C:=HP.J (.inr y) _ _ _ _ _ A;simp[kX]at A;obtain⟨rfl,rfl,rfl,rfl,rfl⟩:=A;rw[<- H.J,U.J]at C;go_wp2;go_roundw;(case rel=>exact⟨i+1,by omega,by go_num,C⟩);case measure=>simp[intOf];omega
    |inl I=>
     obtain⟨cn,Z,cS⟩:=c;obtain⟨dn,dN,dS⟩:=I;rw[lW]at A;simp[kX]at A;obtain⟨rfl,rfl,rfl,rfl,rfl⟩:=A;dsimp only at Mf al lV;subst Mf al lV;by_cases K:cn=true\/dn=true
     .have H:=au (show uI u (j (rowOf cs d)) (r (rowOf cs d))=.inl gp by rw[hf,lW];simp[uI];rcases K with h|h<;>simp[h]);have C:=HP.J (.inl gp) _ _ _ _ _ rfl;rw[<- H.J,U.J]at C;cases cn<;>cases dn<;>first
       | (simp at K;done)
       | (clear K
          go_wp2;go_roundw
          case rel=>exact⟨i+1,by omega,by go_num,C⟩
          case measure=>simp[intOf];omega)
     obtain rfl:cn=false:=(by simpa usingλh=>K (.inl h));obtain rfl:dn=false:=(by simpa usingλh=>K (.inr h));have vG:=HW.J _ (hk.below V.a.uk) ⟨false,Z,cS⟩ ⟨false,dN,dS⟩ (La.J d HM.J _ _ hf lW rfl rfl);have H:=au (show uI u (j (rowOf cs d)) (r (rowOf cs d))=u ⟨false,Z,cS⟩ ⟨false,dN,dS⟩by rw[hf,lW];simp[uI]);have be:=cell0 ((V.a.uk.block q3 a8).trans ar.J) 0;simp only[List.getElem?_toArray,List.getElem?_cons_zero]at be;unfold lg at vG;go_wp2_with fail;refine vG.mono ?_;rintro y w5 ⟨rfl,zn⟩;have⟨x,an,z,er,pl,bo,bt⟩:=j9 (u ⟨false,Z,cS⟩ ⟨false,dN,dS⟩);rw[bt];have h5:=V.below zn;have⟨⟨t0,t1,t2,t3,t4⟩,b1⟩:=kQ h5.a.own W.J ab.J;have C:=h5.put W8.J cQ _ bo;rw[<- H.J,U.J]at C;go_wp2;go_roundw;(case rel=>exact⟨i+1,by omega,by go_num,C⟩);case measure=>simp[intOf];omega
  obtain rfl:i=e.length:=(by omega);have M:=P.J;unfold mid at M;rw[eU,gB,mB,bX]at M;have Pw:=au M.a;go_wp2;go_ret;exact⟨_,rfl,Pw.J.own,Pw.J.uk⟩
theorem zV{w:ω}{lo:Nat}{fv:υ}{ok:List aB->Prop}{G:List aB->aB}(j:acv w lo fv ok G)(K:lo<=w.heap.size) :
 Calls prog 120 #[fv] w λM w'=>∃u,M=τ u/\dX w' lo u ok (λrow=>.inl (G row))/\δ w.heap.size w w':=by have A:=j;obtain⟨n,e,rfl,-⟩:=j;have d:δ w.heap.size w (w.alloc (ξ #[.func (.func n) #[] e] 259)):=(ah _ _).alloc (ae _) _;have C:Hid (dX (w.alloc (ξ #[.func (.func n) #[] e] 259)) lo (.func (.func 152) #[] #[π (σ ⟨w.heap.size,0,ν⟩)]) ok (λrow=>.inl (G row))):=au ⟨_,_,rfl,call152,λb r O cs Q P D E F H I=>alB A (gq.back d r) (r.block K (ak w _)) D E F H I⟩;have y:=d;clear d;go_in;go_wp2_with fail;go_ret;exact⟨_,rfl,C.J,y⟩
theorem apU(d:υ)(j:Int)(w:ω):Calls prog 121 #[d,ι κ j] w λe w'=>e=τ (lg (pY 1))/\δ w.heap.size w w':=by go_in;go_wp2_with fail;refine aD (v:=lg (pY 1)) (by simp[results,results121,go_sem,lg,pY];try rfl) rfl ?_;exact⟨rfl,by repeat(first|exact ah _ _|refine fR ?_ (by simp) _|refine iK ?_ (by simp) _)⟩
theorem al3(j:υ)(u:Int)(k:Int)(c:aB){q:Nat}{t:TypeId}{w:ω}(e:w.heap[q]?=σ (ξ #[ι κ k,.bool c.null,ι κ c.n,θ c.s] t (0,0))):Calls prog 173 #[j,ι κ u,π (σ ⟨q,0,ν⟩)] w λr w'=>r=τ (lg c)/\δ w.heap.size w w':=by have d:=(cw w (si false 0 ⟨#[]⟩) q (ay e)).trans e;have c1:=cell0 d 1;have c2:=cell0 d 2;have c3:=cell0 d 3;simp only[List.getElem?_toArray,List.getElem?_cons_zero,List.getElem?_cons_succ]at c1 c2 c3;clear e d;go_in;go_wp2_with fail;refine aD (v:=lg c) (by simp[results,results173,go_sem,lg];try rfl) rfl ?_;exact⟨rfl,by repeat(first|exact ah _ _|refine fR ?_ (by simp) _|refine iK ?_ (by simp) _)⟩
theorem al4{cs:List (List aB)}{i:Nat}{q:Nat}{t:TypeId}{w:ω}(A:w.heap[q]?=σ (ξ #[ι κ i] t (0,0)))(C:fl w y cs)(K:i<cs.length)(D:xT cs [r]):Calls prog 175 #[y,ι κ r,π (σ ⟨q,0,ν⟩)] w λI w'=>I=τ (lg ((rowOf cs r).getD i gp))/\δ w.heap.size w w':=by
 have j:δ w.heap.size w (w.alloc (si false 0 ⟨#[]⟩)):=(ah _ _).alloc (ae _) _;have H:=cell0 ((j.block q (ay A)).trans A) 0;simp only[List.getElem?_toArray,List.getElem?_cons_zero]at H;obtain⟨d,e⟩:∃c,cs[i]?=σ c:=⟨cs[i],af K⟩;have F:r<d.length:=D r (by simp) d (aA e);obtain⟨c,u⟩:∃c,d[r]?=σ c:=⟨d[r],af F⟩;obtain⟨g,o,cap,V,rfl,P,E⟩:=(C.below j (ae _)).get e;obtain⟨g2,U,W,rfl,Q,R,T⟩:=E.get u;have G:=au (show(rowOf cs r).getD i gp=c by simp[rowOf,List.getD,e,u]);have M:(i:Int)<cs.length:=by omega
 have O:(r:Int)<d.length:=by omega
 clear A e u C D E j;rw[G.J];go_in;go_wp2_with fail;refine aD (v:=lg c) (by simp[results,results175,go_sem,lg];try rfl) rfl ?_;exact⟨rfl,by repeat(first|exact ah _ _|refine fR ?_ (by simp) _|refine iK ?_ (by simp) _)⟩
def rI(c:aB):Prop:=c=gp\/c=pY 0\/c=pY 1
def Tt(s:Bool):dm->Bool
 |.inl c=>!c.null&&decide (c.n=if s then 1 else 0)
 |.inr _=>false
def ib(s:Bool)(l r:dm):dm:=
 match l with
 |.inr e=>.inr e
 |.inl u=>if Tt s l then l else match r with
   |.inr e=>.inr e
   |.inl v=>if Tt s r then r else if u.null then .inl u else .inl v
def uO(s:Bool):dm->Bool
 |.inr _=>false
 |.inl c=>!Tt s (.inl c)
def opens(s:Bool)(F:Nat->dm)(rows:List Nat)(i:Nat):List (Nat×Nat):=((rows.take i).zipIdx).filter λp=>uO s (F p.1)
theorem yg{s:Bool}{d:Nat->dm}{i:Nat}(h:u[i]?=σ r):opens s d u (i+1)=opens s d u i++(if uO s (d r)then[(r,i)]else[]):=by unfold opens;have e:=(aj.mp h).1;rw[dx,h,List.zipIdx_append,qj];congr 1;simp[List.filter_cons,List.zipIdx,Nat.min_eq_left (Nat.le_of_lt e)]
theorem Mk(s:Bool)(d:Nat->dm)(e:List Nat)(i:Nat):(opens s d e i).length<=i:=by unfold opens;refine ag (gD _ _) ?_;simp;omega
theorem Zm{s:Bool}{d:Nat->dm}{i:Nat}{p:Nat×Nat}(h:p∈opens s d u i):u[p.2]?=σ p.1/\uO s (d p.1)=true:=by unfold opens at h;obtain⟨e,j⟩:=eW.mp h;have:=nV.mp e;rw[gi]at this;split at this;{exact⟨this,j⟩};cases this
theorem QM{s:Bool}{e:Nat->dm}{i:Nat}:(opens s e u i).Pairwise λa b=>a.2<b.2:=by induction i with|zero=>simp[opens]|succ i r=>cases h:u[i]? with|none=>(have A:u.length<=i:=(by simpa using h);have y:opens s e u (i+1)=opens s e u i:=(by unfold opens;rw[aL (by omega),aL A]);rw[y];exact r)|some C=>rw[yg h,kL];refine⟨r,by split<;>simp,λa j b d=>?_⟩;split at d;{simp at d;subst d;unfold opens at j;have:=nV.mp (eW.mp j).1;have:=(aj.mp this).1;simp at this;omega};simp at d
def BH(s:Bool)(F G:Nat->dm)(rows:List Nat)(ops:List (Nat×Nat)):List dm:=rows.zipIdx.map λp=>if p∈ops then ib s (F p.1) (G p.1)else F p.1
theorem acZ{s:Bool}{d e:Nat->dm}{ops:List (Nat×Nat)}:(BH s d e u ops).length=u.length:=by simp[BH]
theorem ac0{s:Bool}{d e:Nat->dm}:BH s d e u []=u.map d:=by unfold BH;apply cJ;intro j;simp[List.getElem?_zipIdx];cases u[j]?<;>rfl
theorem Xl{s:Bool}{F G:Nat->dm}{ops:List (Nat×Nat)}(h:u[r]?=σ V)(d:(V,r)∉ops):(BH s F G u ops)[r]?=σ (F V):=by unfold BH;simp[List.getElem?_zipIdx,h,d]
theorem QN{s:Bool}{F G:Nat->dm}{ops:List (Nat×Nat)}(h:u[r]?=σ V):(BH s F G u ops).set r (ib s (F V) (G V))=BH s F G u (ops++[(V,r)]):=by apply cJ;intro i;have y:=(aj.mp h).1;rw[bI];by_cases e:r=i;{subst e;rw[aF rfl,aF (by rw[acZ];exact y)];unfold BH;simp[List.getElem?_zipIdx,h]};rw[aE e];unfold BH;simp only[List.getElem?_map,List.getElem?_zipIdx,Nat.zero_add];cases hi:u[i]? with|none=>rfl|some q=>have:(q,i)∈ops++[(V,r)]↔(q,i)∈ops:=(by simp;intro _ j;exact absurd j.symm e);simp only[Option.map_some];by_cases d:(q,i)∈ops;{rw[aF d,aF (this.mpr d)]};rw[aE d,aE (mt this.mp d)]
theorem Zn{s:Bool}{F G:Nat->dm}{ops:List (Nat×Nat)}(h:u[r]?=σ V)(j:(V,r)∉ops)(e:ib s (F V) (G V)=F V):BH s F G u ops=BH s F G u (ops++[(V,r)]):=by rw[<- QN h,e];have:=Xl (s:=s) (F:=F) (G:=G) h j;apply cJ;intro i;rw[bI];by_cases d:r=i;{subst d;rw[aF rfl,this,aF (aj.mp this).1]};rw[aE d]
theorem ac1{s:Bool}{F G:Nat->dm}{rows:List Nat}:BH s F G rows (opens s F rows rows.length)=rows.map λd=>ib s (F d) (G d):=by unfold BH;apply cJ;intro r;simp only[List.getElem?_map,List.getElem?_zipIdx,Nat.zero_add];cases hj:rows[r]? with|none=>rfl|some d=>simp only[Option.map_some];congr 1;have j:(d,r)∈opens s F rows rows.length↔uO s (F d)=true:=(by unfold opens;rw[eU,eW,nV];simp[hj]);by_cases e:uO s (F d)=true;{rw[aF (j.mpr e)]};rw[aE (λh=>e (j.mp h))];cases hf:F d with|inr u=>rfl|inl c=>rw[hf]at e;simp only[uO,Bool.not_eq_true',Bool.not_eq_false]at e;simp[ib,e]
theorem Tryz.wU:(prog.info? 3).map (λi=>(i.zero,i.size,i.bytes))=σ (σ (ι κ 0),1,8):=by kernel_rfl
theorem zW{w:ω}{size n k:Nat}{t:TypeId}{v:υ}{xs:List υ}(h:w.ownsRow r t size v n xs)(d:v.ownBlock=σ k):r<=k/\k<w.heap.size:=by rcases h.2 with⟨rfl,-⟩|⟨g,cap,cur,rfl,j,e,-⟩;{cases d};cases d;exact⟨j,ay e⟩
structure zX (b w1 wr:ω)(v:υ)(s:Bool)(f:Nat->dm)(rows:List Nat)(i:Nat)(vo vr:υ):Prop where
 out:wr.ownsRow b.heap.size 298 5 v rows.length ((rows.map f).flatMap kX)
 op:wr.ownsRow w1.heap.size 3 1 vo (opens s f rows i).length ((opens s f rows i).map λp=>nr p.2)
 rw':wr.ownsRow w1.heap.size 3 1 vr (opens s f rows i).length ((opens s f rows i).map λp=>nr p.1)
 sep:∀k,vo.ownBlock=σ k->vr.ownBlock≠σ k
 old:∀k,v.ownBlock=σ k->k<w1.heap.size
 uk:δ b.heap.size b wr
 sz:w1.heap.size<=wr.heap.size
 bsz:b.heap.size<=w1.heap.size
theorem zX.below{b w1 wr w':ω}{v:υ}{s:Bool}{f:Nat->dm}{i:Nat}(h:zX b w1 wr v s f u i y e)(d:δ wr.heap.size wr w')(j:opens s f u r=opens s f u i):zX b w1 w' v s f u r y e:=
 ⟨ct h.out d,by rw[j];exact ct h.op d,by rw[j];exact ct h.rw' d,h.sep,h.old,h.uk.trans (d.mono h.uk.size),ag h.sz d.size,h.bsz⟩
theorem zX.alloc{b w1 wr:ω}{v:υ}{s:Bool}{f:Nat->dm}{i:Nat}(h:zX b w1 wr v s f u i y e)(o:Obj):zX b w1 (wr.alloc o) v s f u i y e:=
 ⟨h.out.alloc o,h.op.alloc o,h.rw'.alloc o,h.sep,h.old,h.uk.alloc h.uk.size o,by simp;have:=h.sz;omega,h.bsz⟩
theorem zX.push{b w1 wr:ω}{v:υ}{s:Bool}{f:Nat->dm}{i:Nat}(h:zX b w1 wr v s f u i y e)(Y:u[i]?=σ r)(W:uO s (f r)=true){c c':Obj}{g cap:Nat}
 (C:P.ownsRow w1.heap.size 3 1 (ψ (σ ⟨g,0,ν⟩) ((opens s f u i).length+1) cap) ((opens s f u i).length+1) (((opens s f u i).map λp=>nr p.2)++[nr i])) (g2:(wr.alloc c).grownBy P y.ownBlock) (O:y.ownBlock=σ g\/wr.heap.size+1<=g)
 (T:K.ownsRow w1.heap.size 3 1 (ψ (σ ⟨V,0,ν⟩) ((opens s f u i).length+1) G) ((opens s f u i).length+1) (((opens s f u i).map λp=>nr p.1)++[nr r])) (g3:(P.alloc c').grownBy K e.ownBlock) (Q:e.ownBlock=σ V\/P.heap.size+1<=V) :
 zX b w1 K v s f u (i+1) (ψ (σ ⟨g,0,ν⟩) (opens s f u (i+1)).length cap) (ψ (σ ⟨V,0,ν⟩) (opens s f u (i+1)).length G):=by
 have D:opens s f u (i+1)=opens s f u i++[(r,i)]:=by rw[yg Y,aF W]
 have F:(opens s f u (i+1)).length=(opens s f u i).length+1:=by rw[D];simp
 have hg:g<P.heap.size:=(zW C rfl).2;have I:∀k,e.ownBlock=σ k->k<wr.heap.size:=λk d=>(zW h.rw' d).2;have Z:wr.heap.size+1<=P.heap.size:=by have:=g2.size;simpa using this
 have E:∀k,e.ownBlock=σ k->g≠k:=λk d U=>by
  subst U;rcases O with j|j
  . exact h.sep g j d
  . have:=I g d;omega
 have M:=dV (h.out.alloc c) g2 (λk d A=>by have R:=(zW h.op d).1;have C:=h.old k A;omega);have xI:δ b.heap.size b P:=(h.uk.alloc h.uk.size c).grown g2 (by simp;have:=h.uk.size;omega) (λk d=>ag h.bsz (zW h.op d).1);refine⟨dV (M.alloc c') g3 (λk d A=>by have R:=(zW h.rw' d).1;have C:=h.old k A;omega),?_,?_,λk d H=>?_,h.old,(xI.alloc xI.size c').grown g3 (by simp;have:=xI.size;omega) (λk d=>ag h.bsz (zW h.rw' d).1),?_,h.bsz⟩;{rw[F,D,cZ];exact dV (C.alloc c') g3 (λk d A=>E k d (by cases A;rfl))};{rw[F,D,cZ];exact T};{cases d;cases H;rcases Q with j|j;{exact E _ j rfl};omega};have:=g3.size;simp at this;have:=h.sz;omega
structure Sx (b w1 w:ω)(N:Nat)(va ao Tn:Option Addr)(c co c2 n:Nat)(ops:List (Nat×Nat))(l l2:List dm):Prop where
 a:Ow b w va c n l
 o:w.ownsRow w1.heap.size 3 1 (ψ ao ops.length co) ops.length (ops.map λp=>nr p.2)
 r:w.ownsRow N 298 5 (ψ Tn ops.length c2) ops.length (l2.flatMap kX)
section
variable {b w1 w w':ω} {va ao Tn:Option Addr} {c co c2 n g g2 g3 i N:Nat} {l l2:List dm} {ops:List (Nat×Nat)}
theorem Sx.below(h:Sx b w1 w N va ao Tn c co c2 n ops l l2)(d:δ w.heap.size w w'):Sx b w1 w' N va ao Tn c co c2 n ops l l2:=⟨h.a.below d,ct h.o d,ct h.r d⟩
theorem Sx.put(h:Sx b w1 w N (σ ⟨g,0,ν⟩) (σ ⟨g3,0,ν⟩) (σ ⟨g2,0,ν⟩) c co c2 n ops l l2)(j:g≠g3)(d:g≠g2)(r:i<n)(o:dm){x:Bool}{y:Int}{z:ByteArray}{e p:Int}(u:kX o=[.bool x,ι κ y,θ z,ι κ e,ι κ p]) :
 Sx b w1 (Qk w g (i*5) x y z e p) N (σ ⟨g,0,ν⟩) (σ ⟨g3,0,ν⟩) (σ ⟨g2,0,ν⟩) c co c2 n ops (l.set i o) l2:=
 ⟨h.a.put r o u,alA h.o (by simp[Value.ownBlock];exactλe=>j e.symm),alA h.r (by simp[Value.ownBlock];exactλe=>d e.symm)⟩
end
theorem jz(k:Nat)(d:Array υ)(a:Addr)(m:Go.Mode)(w:ω):(store a (.func (.func k) #[] d) m).run prog w=stored prog w a (.func (.func k) #[] d) m:=run_store prog w a _ m rfl
theorem kC{ops:Array Oper}{o:Oper}{a:Act}{w:ω}{r:Act->ω->Prop}{A:Exit->Act->ω->Prop}{y:Prop}(H:o.guard=ν)(f:FuncId)(xs:Array Operand)(C:Array TypeId)
 (j:o.op=.call { callee:=.value (.func f),args:=xs,argTypes:=C }) (G:∀(d:Array υ) (w:ω),Sem.run W (callFunc f d) w=.ok (.enter f d) w) (d:Array υ) (F:#[]++xs.map a.eval++#[]=d)
 (u:Ending->ω->Prop) (D:Calls W f d w u) (h:∀e w',u e w'->∃v,e=τ v/\r (a.put o.dst v) w'):if Region.wanted o (yielded ops a.tmps)=true then Oper.wp W o a w r A else y:=by
 have K:Region.wanted o (yielded ops a.tmps)=true:=by simp[Region.wanted,H]
 rw[aF K];have e:execOp a.eval o=callFunc f d:=(by cases o;simp only at j;subst j;rw[<- F];rfl);unfold Oper.wp;rw[e,G,Oper.upon_enter];refine D.mono ?_;intro M w' I;obtain⟨v,rfl,E⟩:=h M w' I;exact E
def dL{α β:Type}(f:α->Nat ⊕ β):List α->Nat ⊕ List β
 |[]=>.inr []
 |a::l=>match f a with
   |.inl p=>.inl p
   |.inr b=>match dL f l with
     |.inl p=>.inl p
     |.inr bs=>.inr (b::bs)
theorem oT{α j:Type}(f:α->Nat ⊕ j)(d B:List α):dL f (d++B)=match dL f d with
 |.inl p=>.inl p
 |.inr a=>match dL f B with
   |.inl p=>.inl p
   |.inr b=>.inr (a++b):=by
 induction d with
 |nil=>simp only[List.nil_append,dL];cases dL f B<;>rfl
 |cons x l e=>
   simp only[List.cons_append,dL]
   cases f x with
   |inl p=>rfl
   |inr b=>
     simp only[e]
     cases dL f l with
     |inl p=>rfl
     |inr c=>cases dL f B<;>rfl
theorem Ba{α e:Type}{f:α->Nat ⊕ e}:∀{d:List α} {b:List e},dL f d=.inr b->b.length=d.length
 |[],b,h=>by cases h;rfl
 |x::l,b,h=>by
   simp only[dL]at h
   cases hx:f x with
   |inl p=>rw[hx]at h;cases h
   |inr j=>
     rw[hx]at h
     cases hl:dL f l with
     |inl p=>rw[hl]at h;cases h
     |inr c=>rw[hl]at h;cases h;simp[Ba hl]
theorem Mq{α r:Type}{f:α->Nat ⊕ r}:∀{e:List α} {b:List r},dL f e=.inr b->∀j∈b,∃x∈e,f x=.inr j
 |[],b,h=>by cases h;simp
 |x::l,b,h=>by
   simp only[dL]at h
   cases hx:f x with
   |inl p=>rw[hx]at h;cases h
   |inr j=>
     rw[hx]at h
     cases hl:dL f l with
     |inl p=>rw[hl]at h;cases h
     |inr c=>
       rw[hl]at h
       cases h
       intro z d;rcases bq.mp d with rfl|d
       . exact⟨x,by simp,hx⟩
       . obtain⟨A,u,y⟩:=Mq hl z d
         exact⟨A,cz _ u,y⟩
theorem E8{α e j:Type}(f:e->Nat ⊕ j)(g:α->e):∀d:List α,dL f (d.map g)=dL (λa=>f (g a)) d
 |[]=>rfl
 |x::l=>by simp only[List.map_cons,dL,E8 f g l]
def qN:dm->Nat ⊕ aB
 |.inl c=>.inr c
 |.inr p=>.inl p
def mQ:dm->Bool
 |.inl c=>!c.null&&decide (c.n=1)
 |.inr _=>false
def j6{α:Type}(F:α->dm)(R:List α):Nat ⊕ List α:=match dL (λr=>qN (F r)) R with
 |.inl p=>.inl p
 |.inr _=>.inr (R.filter λr=>mQ (F r))
theorem yl{α:Type}(d:α->dm)(e B:List α):j6 d (e++B)=match j6 d e with
 |.inl p=>.inl p
 |.inr a=>match j6 d B with
   |.inl p=>.inl p
   |.inr b=>.inr (a++b):=by
 unfold j6;rw[oT]
 cases dL (λj=>qN (d j)) e with
 |inl p=>rfl
 |inr a=>
   simp only
   cases dL (λj=>qN (d j)) B with
   |inl p=>rfl
   |inr b=>simp only[List.filter_append]
theorem Zz{α j:Type}(e:j->dm)(g:α->j)(d:List α):j6 e (d.map g)=match j6 (λa=>e (g a)) d with
 |.inl p=>.inl p
 |.inr a=>.inr (a.map g):=by
 unfold j6;rw[E8]
 cases dL (λa=>qN (e (g a))) d with
 |inl p=>rfl
 |inr a=>simp only[List.filter_map];rfl
theorem uq{α:Type}{e:α->dm}{d r:List α}(h:j6 e d=.inr r):r=d.filter λj=>mQ (e j):=by unfold j6 at h;cases hA:dL (λj=>qN (e j)) d with|inl p=>rw[hA]at h;cases h|inr a=>rw[hA]at h;cases h;rfl
abbrev Mr:=Nat×Nat×Nat
def lG{α:Type}(F:α->dm)(R:List α)(s:Mr):List α×Mr:=
 if s.2.1≠0 then([],s)else match j6 F R with
  |.inl q=>([],(s.1,9,q))
  |.inr K=>(K,(s.1+K.length,0,0))
def wY{α:Type}(F:α->dm)(R R':List α)(s:Mr):Prop:=match j6 F R with
 |.inl q=>s.2.1=9/\s.2.2=q
 |.inr K=>R'=K/\s=(K.length,0,0)
theorem wY.nil{α:Type}(d:α->dm):wY d [] [] (0,0,0):=⟨rfl,rfl⟩
theorem wY.keep{α:Type}{d:α->dm}{e j:List α}{s:Mr}(h:wY d e j s)(B:List α):wY d (e++B) (j++(lG d B s).1) (lG d B s).2:=by unfold wY at h ⊢;rw[yl];cases hR:j6 d e with|inl q=>(rw[hR]at h;simp only at h ⊢;unfold lG;rw[aF (by rw[h.1];decide)];exact h)|inr r=>rw[hR]at h;simp only at h ⊢;obtain⟨rfl,rfl⟩:=h;unfold lG;rw[aE (by simp)];cases hB:j6 d B with|inl q=>exact⟨rfl,rfl⟩|inr b=>exact⟨rfl,by simp⟩
def Cc(a b:Int):Int×Bool:=(wrap64 (a - b),decide (a<wrap64 (a - b))==decide (b<0))
def uU(o:Nat)(a b:Int):Int×Bool:=
 if o=0 then(wrap64 (a+b),decide (wrap64 (a+b)<a)==decide (b<0))
 else if o=1 then Cc a b
 else if o=2 then(if a=0 then(0,true)else if a=-1 then Cc 0 b else(wrap64 (a*b),IntKind.i64.wrap ((wrap64 (a*b)).tdiv a)==b))
 else if o=3 then(if b=0 then(0,false)else if b=-1 then Cc 0 a else(IntKind.i64.wrap (a.tdiv b),true))
 else if b=0 then(0,false)else(a.tmod b,true)
def CJ(f:Nat)(args:Array υ)(p:Int×Bool):Prop:=∀w,Calls prog f args w λr w'=>r=τ (.tuple #[ι κ p.1,.bool p.2])/\δ w.heap.size w w'
theorem U6(a b:Int):CJ 204 #[ι κ a,ι κ b] (Cc a b):=by intro w;go_in;go_wp2_with fail;(try simp only[Exit.inBlock,Exit.then]);refine aD (v:=.tuple #[ι κ (wrap64 (a - b)),.bool (decide (a<wrap64 (a - b))==decide (b<0))]) (by simp[results,results204,go_sem];try rfl) rfl ⟨rfl,ah _ _⟩
set_option linter.unusedSimpArgs false in
theorem ahI(a b:Int):CJ 244 #[ι κ a,ι κ b] (uU 0 a b)/\CJ 245 #[ι κ a,ι κ b] (uU 2 a b)/\CJ 246 #[ι κ a,ι κ b] (uU 3 a b)/\CJ 247 #[ι κ a,ι κ b] (uU 4 a b):=by
 have f:∀x:Int,x=0\/x=-1\/x≠0/\x≠-1/\(x==0)=false/\(x==-1)=false:=λx=>by
  by_cases h:x=0<;>by_cases g:x=-1<;>simp[h,g]
 have g:∀n,IntKind.i64.wrap n=wrap64 n:=λn=>by unfold wrap64;exact kq n
 refine⟨?_,?_,?_,?_⟩;all_goals intro w
 case' refine_2=>rcases f a with rfl|rfl|⟨d,e,r,u⟩
 case' refine_3=>rcases f b with rfl|rfl|⟨d,e,r,u⟩
 case' refine_4=>rcases f b with rfl|rfl|⟨d,e,r,u⟩
 all_goals go_in;go_wp2_with fail;(try(refine(U6 0 _ _).mono ?_;rintro A w1 ⟨rfl,j⟩;have y:=au j;clear j;go_wp2_with fail));(try go_region);all_goals (try go_wp2_with fail);(try simp only[Exit.inBlock,Exit.then]);refine aD (by simp[results,results244,results245,results246,results247,go_sem];rfl) rfl ⟨?_,?_⟩;{first|rfl|(simp[uU,d,e,g];done)|(simp[uU,g];done)};repeat(first|exact ah _ _|exact y.J|refine aH ?_)
theorem amo(o:Nat)(G:o<=4)(a b:Int):CJ 230 #[ι κ o,ι κ a,ι κ b] (uU o a b):=by
 intro w;have F:o=0\/o=1\/o=2\/o=3\/o=4:=by omega
 obtain⟨j,r,u,y⟩:=ahI a b;have A:=au (j w);have d:=au (show Calls _ _ _ _ _ from U6 a b w);rw[show Cc a b=uU 1 a b from rfl]at d;have C:=au (r w);have D:=au (u w);have E:=au (y w);clear G j r u y;rcases F with rfl|rfl|rfl|rfl|rfl<;>(
  go_in;go_wp2_with fail
  first
   |refine A.J.mono ?_
   |refine d.J.mono ?_
   |refine C.J.mono ?_
   |refine D.J.mono ?_
   |refine E.J.mono ?_
  rintro I w1 ⟨rfl,e⟩;have H:=au e;clear e;go_wp2_with fail
  (try simp only[Exit.inBlock,Exit.then])
  exact aD (v:=.tuple #[ι κ (uU _ a b).1,.bool (uU _ a b).2]) (by simp[results,results230,go_sem];try rfl) rfl ⟨rfl,H.J⟩)
def CK(pl:Nat)(p:Int×Bool):dm:=if p.2 then .inl (pY p.1)else .inr pl
theorem ur(h:Bool)(w:ω):Calls prog 157 #[.bool h] w λd w'=>d=τ (zI (.inl (kE h)))/\δ w.heap.size w w':=by cases h;all_goals go_in;go_wp2_with fail;refine aD (by simp[results,results157,go_sem];rfl) rfl ?_;exact⟨rfl,by repeat(first|exact ah _ _|refine fR ?_ (by simp) _|refine iK ?_ (by simp) _)⟩
def Ms(a:ω)(lo:Nat)(fv:υ)(pl:Nat):Prop:=
 ∃n caps,fv=.func (.func n) #[] caps/\Enters n/\∀b,gq lo a.heap.size a b->∀p:Int×Bool,Calls prog n (#[ι κ p.1,.bool p.2]++caps) b λe b'=>e=τ (zI (CK pl p))/\δ b.heap.size b b'
theorem numLit(e:Nat)(p:Int×Bool){q:Nat}{t:TypeId}{w:ω}(d:w.heap[q]?=σ (ξ #[ι κ e] t (0,0))):Calls prog 223 #[ι κ p.1,.bool p.2,π (σ (Ad q 0))] w λr w'=>r=τ (zI (CK e p))/\δ w.heap.size w w':=by obtain⟨n,h⟩:=p;have j:=λo=>cell0 ((cw w o q (ay d)).trans d) 0;simp only[List.getElem?_toArray,List.getElem?_cons_zero]at j;have u:=ay d;cases h;all_goals go_in;go_wp2_with fail;refine aD (v:=χ #[.bool false,ι κ _,θ ⟨#[]⟩,ι κ _,ι κ _]) (by simp[results,results223,go_sem];exact⟨rfl,rfl,rfl⟩) rfl ?_;exact⟨rfl,by repeat(first|exact ah _ _|refine fR ?_ (by simp) _|refine iK ?_ (by simp) _)⟩
theorem DV{w:ω}{lo:Nat}(d:Nat)(r:lo<=w.heap.size):Calls prog 202 #[ι κ d] w λu w'=>∃v,u=τ v/\Ms w' lo v d/\δ w.heap.size w w':=by have e:Hid (Ms (w.alloc (ξ #[ι κ d] 3)) lo (.func (.func 223) #[] #[π (σ (Ad w.heap.size 0))]) d):=au ⟨_,_,rfl,call223,λb j p=>numLit d p (j.block r (ak w _))⟩;go_in;go_wp2;go_ret;exact⟨_,rfl,e.J,(ah _ _).alloc (ae _) _⟩
def CL(o:Nat)(d:Int):Bool:=if o=5 then decide (d=0)else if o=6 then decide (d≠0)else if o=7 then decide (d<0)else if o=8 then decide (d<=0)else if o=9 then decide (d>0)else decide (d>=0)
theorem ZA(o:Nat)(r:5<=o)(u:o<=10)(d:Int)(w:ω):Calls prog 227 #[ι κ o,ι κ d] w λe w'=>e=τ (.bool (CL o d))/\w'=w:=by
 have j:o=5\/o=6\/o=7\/o=8\/o=9\/o=10:=by omega
 rcases j with rfl|rfl|rfl|rfl|rfl|rfl;all_goals go_in;go_wp2;go_ret;exact⟨by first|rfl|(congr 1;simp[CL];done)|(simp[CL,bne,BEq.beq];done),rfl⟩
abbrev qO:Obj:=IU false 0 ⟨#[]⟩ 0 0
abbrev oh(c:aB):Obj:=.cells #[.bool c.null,.int .i64 c.n,.string c.s] 229
theorem ZB{w w1:ω}{B:Nat}(j:P.heap[r]?=σ qO)(C:δ B w P)(A:δ P.heap.size P w1)(e:B<=r) :
 (w1.cell? (Ad r 0)=σ (.bool false)/\w1.cell? (Ad r 1)=σ (ι κ 0)/\w1.cell? (Ad r 2)=σ (θ ⟨#[]⟩)/\w1.cell? (Ad r 3)=σ (ι κ 0)/\w1.cell? (Ad r 4)=σ (ι κ 0))/\(w1.frozen? (Ad r 0)=false/\w1.frozen? (Ad r 1)=false/\w1.frozen? (Ad r 2)=false/\w1.frozen? (Ad r 3)=false/\w1.frozen? (Ad r 4)=false)/\
 ∀a b c u y,δ B w (((((w1.setCell (Ad r 0) a).setCell (Ad r 1) b).setCell (Ad r 2) c).setCell (Ad r 3) u).setCell (Ad r 4) y):=by
 have d:=(A.block r (ay j)).trans j;refine⟨xV d,⟨fP d 0,fP d 1,fP d 2,fP d 3,fP d 4⟩,λa b c u y=>?_⟩;have D:B<=P.heap.size:=by have:=ay j;omega
 have:=C.trans (A.mono D);exact((((this.setCell e _).setCell e _).setCell e _).setCell e _).setCell e _
theorem Jr(w:ω)(o d e:Obj):δ w.heap.size w (((w.alloc o).alloc d).alloc e)/\(((w.alloc o).alloc d).alloc e).heap[w.heap.size+2]?=σ e:=by refine⟨(gT w o d).1.alloc (by simp;omega) _,?_⟩;have:=ak ((w.alloc o).alloc d) e;simpa using this
theorem amq(c:aB)(w:ω):Calls prog 201 #[lg c] w λd w'=>d=τ (zI (.inl (kE (decide (c.n=0)))))/\δ w.heap.size w w':=by have e:=gT w (oh c) qO;have y:=ur (c.n==0) ((w.alloc (oh c)).alloc qO);have u:=au (λw1 (h:δ _ _ w1)=>ZB e.2.1 e.1 h (by omega));unfold lg;go_in;go_wp2_with fail;refine y.mono ?_;rintro d w1 ⟨rfl,D⟩;have⟨x,P,z,K,O,M,j⟩:=j9 (.inl (kE (c.n==0)));have⟨⟨E,F,G,H,I⟩,⟨Q,R,T,U,V⟩,C⟩:=u.J w1 D;have r:=au C;have A:=au j;rw[j];go_wp2_with fail;refine aD (by simp[results,results201,go_sem,E,F,G,H,I];rfl) rfl ?_;exact⟨by rw[<- A.J];rfl,r.J _ _ _ _ _⟩
theorem amr{a w:ω}{lo q:Nat}{t:TypeId}(hw:Ms a lo y r)(O:gq lo a.heap.size a w)(e:w.heap[q]?=σ (ξ #[y] t (0,0)))(c:aB):Calls prog 203 #[lg c,π (σ (Ad q 0))] w λA w'=>A=τ (zI (CK r (Cc 0 c.n)))/\δ w.heap.size w w':=by
 obtain⟨n,W,rfl,u,I⟩:=hw;have d:=gT w (oh c) qO;have⟨G,C⟩:=nm ((w.alloc (oh c)).alloc qO);rw[<- C]at d;have U:=au (λw1 (h:δ _ _ w1)=>ZB d.2.1 d.1 h (by omega));have F:=au (λw1 (h:δ _ _ w1)=>show w1.cell? (Ad q 0)=σ (.func (.func n) #[] W)from cell0 ((h.block q (ai (ay e) d.1.size)).trans ((d.1.block q (ay e)).trans e)) 0);have GI:=F.J _ (ah _ _);obtain⟨Y,-⟩:=lx d.2.2;obtain⟨-,c1,-⟩:=lx d.2.2;have KM:=ay e;have⟨p,P⟩:=nm (Cc 0 c.n);have D:=au (λw1=>U6 0 c.n w1);rw[<- P]at D ⊢;have E:=au (λw1 (h:δ _ _ w1)=>I w1 ((O.below d.1).below h) p);have V:=au C;have⟨x,ac,z,er,ab,Z,K⟩:=j9 (CK r p);rw[K]at E ⊢;unfold Enters at u;clear d P e I O C Z K Y;unfold lg;go_in;go_wp2_with fail;rw[<- V.J];go_region_with(first
  | (go_at_call 204;refine(D.J _).mono ?_;rintro A w1 ⟨rfl,H⟩;have j:=(aH (ah G.heap.size G)).trans H;have aa:=F.J w1 j;have Q:=au j;have T:=au (E.J w1 j);clear H j)
  | (refine T.J.mono ?_;rintro A w2 ⟨rfl,M⟩;have⟨⟨q0,q1,q2,q3,q4⟩,⟨z0,z1,z2,z3,z4⟩,u⟩:=U.J w2 (Q.J.trans (M.mono Q.J.size));have R:=au u;clear M u))
 all_goals (try go_wp2_with fail);(try simp only[Exit.inBlock,Exit.then]);refine aD (by simp[results,results203,go_sem,q0,q1,q2,q3,q4];rfl) rfl ?_;exact⟨rfl,R.J _ _ _ _ _⟩
theorem ams(c:aB)(d:Bool)(G:υ){q:Nat}{t:TypeId}{w:ω}(j:w.heap[q]?=σ (ξ #[G,.bool d] t (0,0))):Calls prog 177 #[lg c,π (σ (Ad q 0))] w λr w'=>r=τ (zI (.inl (kE (c.null != d))))/\δ w.heap.size w w':=by have e:=gT w (oh c) qO;have C:=ur (c.null != d) ((w.alloc (oh c)).alloc qO);have A:=au (λw1 (h:δ _ _ w1)=>ZB e.2.1 e.1 h (by omega));have c1:=cell0 ((e.1.block q (ay j)).trans j) 1;simp only[List.getElem?_toArray,List.getElem?_cons_zero,List.getElem?_cons_succ]at c1;have P:=ay j;unfold lg;go_in;go_wp2_with fail;refine C.mono ?_;rintro r w1 ⟨rfl,F⟩;have⟨x,U,z,Q,T,R,u⟩:=j9 (.inl (kE (c.null != d)));have⟨⟨H,I,K,M,O⟩,⟨V,W,Y,Z,z4⟩,E⟩:=A.J w1 F;have y:=au E;have D:=au u;rw[u];go_wp2_with fail;refine aD (by simp[results,results177,go_sem,H,I,K,M,O];rfl) rfl ?_;exact⟨by rw[<- D.J],y.J _ _ _ _ _⟩
def Xu(W:aB->dm)(c:aB):dm:=if c.null then .inl c else W c
theorem aqo{a b:ω}{lo q:Nat}{t:TypeId}{ok:aB->Prop}{d:aB->dm}(V:wO a lo y ok d)(U:gq lo a.heap.size a b)(u:b.heap[q]?=σ (ξ #[y] t (0,0)))(c:aB)(T:ok c) :
 Calls prog 200 #[lg c,π (σ (Ad q 0))] b λC K=>C=τ (zI (Xu d c))/\δ b.heap.size b K:=by obtain⟨n,aa,rfl,O,M⟩:=V;have e:=gT b (oh c) qO;have j:=M ((b.alloc (oh c)).alloc qO) (U.below e.1) c T;have G:=au (λw1 (h:δ _ _ w1)=>ZB e.2.1 e.1 h (by omega));have E:=cell0 ((e.1.block q (ay u)).trans u) 0;simp only[List.getElem?_toArray,List.getElem?_cons_zero]at E;have KM:=ay u;unfold Enters at O;obtain⟨W,r,cs⟩:=c;unfold lg at j ⊢;cases W with|true=>(go_in;go_wp2_with fail;refine aD (by simp[results,results200,go_sem];rfl) rfl ?_;refine⟨rfl,?_⟩;repeat(first|exact ah _ _|refine fR ?_ (by simp) _|refine iK ?_ (by simp) _))|false=>have A:=au (show Xu d ⟨false,r,cs⟩=d ⟨false,r,cs⟩from rfl);have⟨I,Q⟩:=nm (d ⟨false,r,cs⟩);rw[<- Q]at j A;rw[A.J];go_in;go_wp2_with fail;refine j.mono ?_;rintro C w1 ⟨rfl,R⟩;have⟨x,ab,z,er,pl,hL,D⟩:=j9 I;have⟨⟨Y,Z,q2,q3,q4⟩,⟨z0,z1,z2,z3,z4⟩,P⟩:=G.J w1 R;have F:=au P;have H:=au D;rw[D];go_wp2_with fail;refine aD (by simp[results,results200,go_sem,Y,Z,q2,q3,q4];rfl) rfl ?_;exact⟨by rw[<- H.J],F.J _ _ _ _ _⟩
set_option linter.unusedSimpArgs false in
theorem amA{a b:ω} {lo q q2 q3:Nat} {t t2 t3:TypeId} {fv gv:υ} {ok:List aB->Prop} {j u:List aB->dm} {s:Bool} (hc:dX a lo fv ok j) (Md:dX a lo gv ok u) (hF:∀row,ok row->∀c,j row=.inl c->rI c) (hG:∀row,ok row->∀c,u row=.inl c->rI c) (O:gq lo a.heap.size a b) (hq:b.heap[q]?=σ (ξ #[fv] t (0,0))) (Ik:b.heap[q2]?=σ (ξ #[.bool false,ι κ (kE s).n,θ ⟨#[]⟩,ι κ 0,ι κ 0] t2 (0,0))) (NT:b.heap[q3]?=σ (ξ #[gv] t3 (0,0))) {bv rv:υ} {cs:List (List aB)} {e:List Nat} (hb:fl b bv cs) (hr:ia b rv e) (oO:xT cs e) (hl:e.length<=64) (lP:∀d∈e,ok (rowOf cs d)) :
 Calls prog 224 #[bv,rv,π (σ ⟨q,0,ν⟩),π (σ ⟨q2,0,ν⟩),π (σ ⟨q3,0,ν⟩)] b λd b'=>∃v,d=τ v/\b'.ownsRow b.heap.size 298 5 v e.length ((e.map λd=>ib s (j (rowOf cs d)) (u (rowOf cs d))).flatMap kX)/\δ b.heap.size b b':=by
 obtain⟨n,ci,rfl,hE,hC⟩:=hc;obtain⟨n1,zJ,rfl,b3,bc⟩:=Md;have HC:=hC b O bv cs rv e hb hr oO hl lP;have be:=au (λw (W:δ b.heap.size b w) ov (Xz:List Nat) (h1:ia w ov Xz) (h2:∀d∈Xz,d∈e) (H:Xz.length<=64)=>bc w (O.below W) bv cs ov Xz (hb.below W (ae _)) h1 (λd h=>oO d (h2 d h)) H (λd h=>lP d (h2 d h)));have HF:=au (λd (h:d∈e)=>hF _ (lP d h));have HG:=au (λd (h:d∈e)=>hG _ (lP d h));have HR:=hr;have⟨ra,sL,Ew⟩:=bz.slice hr;subst Ew;have aq:=au Ik;have bt:=au NT;have c0:=cell0 hq 0;simp at c0;have aC:=ay Ik;have b2:=ay NT;unfold Enters at hE b3;clear hC bc O hb hr hq Ik NT oO lP hF hG;go_in;go_wp2_with fail;refine HC.mono ?_;rintro D w1 ⟨v,rfl,cj,W⟩;obtain⟨va,dG,rfl,Ue,NS⟩:=cu cj;have bw:Hid (zX b w1 w1 (ψ va e.length dG) s (λd=>j (rowOf cs d)) e 0 (ψ ν 0 0) (ψ ν 0 0)):=au ⟨cj,by simpa[opens]using iJ _ _ _ _,by simpa[opens]using iJ _ _ _ _,λk h=>(by cases h),λk h=>(zW cj h).2,W,ae _,W.size⟩;have av:=au Ue;clear cj W Ue HC c0;go_wp2;go_loopw[9,10,22] (λc0 c1 c2 wr=>∃(i:Nat) (ao:Option Addr) (co:Nat) (I:Option Addr) (K:Nat),i<=e.length/\c0=ψ ao (opens s (λd=>j (rowOf cs d)) e i).length co/\c1=ψ I (opens s (λd=>j (rowOf cs d)) e i).length K/\c2=ι κ i/\Hid (zX b w1 wr (ψ va e.length dG) s (λd=>j (rowOf cs d)) e i (ψ ao (opens s (λd=>j (rowOf cs d)) e i).length co) (ψ I (opens s (λd=>j (rowOf cs d)) e i).length K))) (λ_ _ c _=>e.length - (intOf c).toNat);case atStart=>exact⟨0,ν,0,ν,0,aI _,rfl,rfl,rfl,bw⟩
 case round=>
  obtain⟨i,ao,co,I,K,hi,rfl,rfl,rfl,Q⟩:=hrel;by_cases cQ:i<e.length
  .have jY:(i:Int)<e.length:=(by omega);obtain⟨g,rfl,hg⟩:=av.J (by omega);obtain⟨d,vy⟩:∃d,e[i]?=σ d:=⟨e[i],af cQ⟩;have wu:=aA vy;have Ql:=au vy;have lr:(e.map λd=>j (rowOf cs d))[i]?=σ (j (rowOf cs d)):=(by rw[aU,vy];rfl);have bd:=Mk s (λd=>j (rowOf cs d)) e i;obtain⟨x1,y1,z1,e1,p1,r,-⟩:=j9 (j (rowOf cs d));obtain⟨⟨d0,d1,d2,d3,d4⟩,-⟩:=kQ Q.J.out lr r;have ab:Hid (uO s (j (rowOf cs d))=false->opens s (λd=>j (rowOf cs d)) e (i+1)=opens s (λd=>j (rowOf cs d)) e i):=au λh=>(yg vy).trans (by simp[h]);have ac:=au wu;clear vy lr wu;go_wp2_with fail;refine(K9 _ _ _).mono ?_;rintro D w2 ⟨rfl,G⟩;have jS:=((ah _ wr).alloc (ae _) (IU x1 y1 z1 e1 p1)).trans (G.mono (by simp));have A:=Q.J.below jS rfl;have⟨a0,a1,a2,a3,a4⟩:=xV ((G.block wr.heap.size (by simp)).trans (ak wr _));have⟨s0,s1,s2,s3,s4⟩:=xV ((A.uk.block q2 aC).trans aq.J);clear G d0 d1 d2 d3 d4;cases hf:j (rowOf cs d)with
   |inr D=>have E:=au (ab.J (by rw[hf];rfl));rw[hf]at r;simp[kX]at r;obtain⟨-,-,-,rfl,-⟩:=r;clear hf;go_wp2;go_roundw;(case rel=>exact⟨i+1,ao,co,I,K,by omega,by rw[E.J],by rw[E.J],by push_cast;rfl,au (by have h:=Q.J.below jS E.J;rwa[<- E.J]at h)⟩);case measure=>simp[intOf];omega
   |inl c=>
    have Z:=HF.J d ac.J c hf;rw[hf]at r;by_cases R:uO s (j (rowOf cs d))=true
    .have T:=au R;rw[hf]at R;have⟨g2,o2,wT,WG,c4⟩:=ia.get (bz.below HR A.uk (ae _)) Ql.J;cases WG;have bg:=au (λw (lQ:δ b.heap.size b w)=>ia.get (bz.below HR lQ (ae _)) Ql.J);clear hf ab;rcases Z with rfl|rfl|rfl<;>cases s<;>first
      | (simp[uO,Tt,gp,pY]at R;done)
      | (clear R
         simp[kX,gp,pY]at r;obtain⟨rfl,rfl,rfl,rfl,rfl⟩:=r;simp[kE,pY]at s1;go_wp2_with(at_builtin;refine WC rfl _ _ 36 rfl (base:=w1.heap.size) underlying36 Tryz.wU ⟨rfl,by decide,by decide⟩ rfl A.op rfl (by simp) rfl ?k5 ?k6 ?k7 ?_)
         case k5=>simp[Value.oneCell']
         case k6=>omega
         case k7=>exact A.sz
         intro g3 Zs w3 nR jT vK;have oI:Hid (δ b.heap.size b w3):=au ((A.uk.alloc A.uk.size _).grown jT (by simp;have:=A.uk.size;omega) (λk O=>ag Q.J.bsz (zW A.op O).1));have Di:Hid (w3.ownsRow w1.heap.size 3 1 (ψ I (opens _ (λd=>j (rowOf cs d)) e i).length K) (opens _ (λd=>j (rowOf cs d)) e i).length ((opens _ (λd=>j (rowOf cs d)) e i).map λp=>nr p.1)):=au (dV (A.rw'.alloc _) jT (λk O=>A.sep k O));have aa:Hid (w1.heap.size<=w3.heap.size):=au (by have:=jT.size;simp at this;have:=A.sz;omega);have⟨g4,o4,ca,b6,c5⟩:=bg.J w3 oI.J
         cases b6
         have bo:=au vK;clear vK;go_wp2_with(at_builtin;refine WC rfl _ _ 36 rfl (base:=w1.heap.size) underlying36 Tryz.wU ⟨rfl,by decide,by decide⟩ rfl Di.J rfl (by simp) rfl ?k5 ?k6 ?k7 ?_)
         case k5=>simp[Value.oneCell']
         case k6=>omega
         case k7=>exact aa.J
         intro g5 cb w5 a9 a5 ba;have HN:=A.push Ql.J T.J nR jT (by simpa using bo.J) a9 a5 ba;have Y9:Hid ((opens _ (λd=>j (rowOf cs d)) e (i+1)).length=(opens _ (λd=>j (rowOf cs d)) e i).length+1):=au (by rw[yg Ql.J,aF T.J];simp;rfl);clear a9 a5 ba;go_wp2;go_roundw
         case rel=>exact⟨i+1,_,_,_,_,by omega,by rw[Y9.J],by rw[Y9.J],by push_cast;rfl,HN⟩
         case measure=>simp[intOf];omega)
    have ad:uO s (j (rowOf cs d))=false:=(by simpa using R);have E:=au (ab.J ad);rw[hf]at ad;clear hf R ab;rcases Z with rfl|rfl|rfl<;>cases s<;>first
     | (simp[uO,Tt,gp,pY]at ad;done)
     | (clear ad
        simp[kX,gp,pY]at r;obtain⟨rfl,rfl,rfl,rfl,rfl⟩:=r;simp[kE,pY]at s1;go_wp2;go_roundw
        case rel=>exact⟨i+1,ao,co,I,K,by omega,by rw[E.J],by rw[E.J],by push_cast;rfl,au (by have h:=Q.J.below jS E.J;rwa[<- E.J]at h)⟩
        case measure=>simp[intOf];omega)
  obtain rfl:i=e.length:=by omega
  have⟨ops,y⟩:=nm (opens s (λd=>j (rowOf cs d)) e e.length);have bd:=Mk s (λd=>j (rowOf cs d)) e e.length;have ac:=au (λp (h:p∈ops)=>Zm (by rw[y]at h;exact h));have bl:=(show ops.Pairwise λa b=>a.2<b.2 from by rw[y];exact QM);have uT:=au (ac1 (s:=s) (F:=λd=>j (rowOf cs d)) (G:=λd=>u (rowOf cs d)) (rows:=e));rw[<- y]at uT bd;have M:=Q.J;have T:Hid (wr.ownsRow w1.heap.size 3 1 (ψ ao ops.length co) ops.length (ops.map λp=>nr p.2)):=au (by rw[y];exact M.op);have Di:Hid (wr.ownsRow w1.heap.size 3 1 (ψ I ops.length K) ops.length (ops.map λp=>nr p.1)):=au (by rw[y];exact M.rw');have bb:=M.out;have bm:=au M.old;have po:=M.uk;have aa:=au M.sz;have cc:=au M.bsz;rw[<- y];clear M Q y;have c1:=cell0 ((po.block q3 b2).trans bt.J) 0;simp at c1;have xE:=be.J wr po (ψ I ops.length K) (ops.map Prod.fst) (by have:=bz.fM Di.J;unfold ia;rw[gI,aR];exact this) (λd hr=>by obtain⟨p,hp,rfl⟩:=cI.mp hr;exact aA (ac.J p hp).1) (by rw[aR];omega);rw[aR,gI]at xE;go_wp2_with fail;refine xE.mono ?_;rintro D w2 ⟨v2,rfl,FP,G⟩;obtain⟨Tn,Me,rfl,ax,cg⟩:=cu FP;have cd:=au (ag aa.J G.size);have bx:=au (cu T.J);have⟨N,hN⟩:=nm wr.heap.size;have bi:Hid (w1.heap.size<=N):=au (by rw[hN];exact aa.J);have b0:Hid (Sx b w1 w2 N va ao Tn dG co Me e.length ops (BH s (λd=>j (rowOf cs d)) (λd=>u (rowOf cs d)) e (ops.take 0)) (ops.map ((λd=>u (rowOf cs d)) ∘ Prod.fst))):=au ⟨⟨by rw[lK,ac0];exact ct bb G,po.trans (G.mono po.size)⟩,ct T.J G,by rw[hN];exact FP⟩;have a8:=au ax;rw[<- hN]at a8;clear FP G ax xE c1 T Di bb po aa;go_wp2;go_loopw[53] (λc wr=>∃k:Nat,k<=ops.length/\c=ι κ k/\Hid (Sx b w1 wr N va ao Tn dG co Me e.length ops (BH s (λd=>j (rowOf cs d)) (λd=>u (rowOf cs d)) e (ops.take k)) (ops.map ((λd=>u (rowOf cs d)) ∘ Prod.fst)))) (λc _=>ops.length - (intOf c).toNat);case atStart=>exact⟨0,aI _,rfl,b0⟩
  case round=>
   obtain⟨k,O,rfl,HX⟩:=hrel;by_cases b7:k<ops.length
   .have ce:(k:Int)<ops.length:=(by omega);obtain⟨⟨d,an⟩,U⟩:∃p,ops[k]?=σ p:=⟨ops[k],af b7⟩;have⟨V,F⟩:=ac.J _ (aA U);have hj:=(aj.mp V).1;have cn:(an:Int)<e.length:=(by omega);obtain⟨g,rfl,hg⟩:=av.J (by omega);obtain⟨g2,rfl,tR⟩:=a8.J (by omega);obtain⟨cf,ck,b5,b4,-⟩:=bx.J;cases b5;obtain⟨g3,rfl,Za⟩:=b4 (by omega);have QL:g<w1.heap.size:=bm.J g rfl;have cm:=bi.J;have W8:Hid (g≠g3/\g≠g2):=au ⟨by omega,by omega⟩;have U1:(d,an)∉ops.take k:=λhm=>by
     have⟨m,BR⟩:=dK hm;rw[gi]at BR;split at BR
     . have⟨h1,h2⟩:=aj.mp BR
       have⟨H,h4⟩:=aj.mp U;have:=List.pairwise_iff_getElem.mp bl m k h1 H (by omega);rw[h2,h4]at this;exact bM _ this
     . cases BR
    have BA:(ops.map ((λd=>u (rowOf cs d)) ∘ Prod.fst))[k]?=σ (u (rowOf cs d)):=(by rw[aU,U];rfl);have zk:ops.take (k+1)=ops.take k++[(d,an)]:=(by rw[dx,U];rfl);have TV:=au (Xl (s:=s) (F:=λd=>j (rowOf cs d)) (G:=λd=>u (rowOf cs d)) V U1);have ap:=au (QN (s:=s) (F:=λd=>j (rowOf cs d)) (G:=λd=>u (rowOf cs d)) (ops:=ops.take k) V);have Xa:=au (Zn (s:=s) (F:=λd=>j (rowOf cs d)) (G:=λd=>u (rowOf cs d)) V U1);rw[<- zk]at ap Xa;obtain⟨x2,y2,z2,e2,p2,C,-⟩:=j9 (u (rowOf cs d));obtain⟨x1,y1,z1,e1,p1,r,-⟩:=j9 (j (rowOf cs d));obtain⟨⟨d0,d1,d2,d3,d4⟩,-⟩:=kQ HX.J.r BA C;have c3:(wr.alloc (IU x2 y2 z2 e2 p2)).cell? ⟨g3,k,ν⟩=σ (ι κ an):=(by rw[(HX.J.o.alloc _).cellAt k (by omega),aU,U];rfl);have wu:=aA V;have am:=HG.J d wu;have al:=HF.J d wu;have b9:=au r;clear U1 BA zk U V wu;go_wp2_with fail;refine(K9 _ _ _).mono ?_;rintro D w3 ⟨rfl,iw⟩;have H:=HX.J.below (((ah _ wr).alloc (ae _) (IU x2 y2 z2 e2 p2)).trans (iw.mono (by simp)));have⟨⟨u0,u1,u2,u3,u4⟩,cl⟩:=kQ H.a.own TV.J r;have⟨a0,a1,a2,a3,a4⟩:=xV ((iw.block wr.heap.size (by simp)).trans (ak wr _));have⟨s0,s1,s2,s3,s4⟩:=xV ((H.a.uk.block q2 aC).trans aq.J);have b1:=H;have HP:=au (λ(o:dm) x b8 z D p h=>H.put W8.J.1 W8.J.2 hj o (x:=x) (y:=b8) (z:=z) (e:=D) (p:=p) h);clear iw H d0 d1 d2 d3 d4 c3 HX;cases hf:j (rowOf cs d)with
    |inr D=>rw[hf]at F;cases F
    |inl c=>
     have Z:=al c hf;rw[hf]at r F;have y:Tt s (.inl c)=false:=(by simpa[uO]using F);cases lW:u (rowOf cs d)with
     |inr D=>have HQ:=au (show ib s (j (rowOf cs d)) (u (rowOf cs d))=.inr D by rw[hf,lW];simp[ib,y]);rw[lW]at C;have P:=au (HP.J (.inr D) _ _ _ _ _ C);rw[<- HQ.J,ap.J]at P;simp[kX]at C;obtain⟨rfl,rfl,rfl,rfl,rfl⟩:=C;clear hf lW F r am al Z y HP;go_wp2;go_roundw;(case rel=>exact⟨k+1,by omega,by push_cast;rfl,P⟩);case measure=>simp[intOf];omega
     |inl Y=>
      have U9:=am Y lW;rw[lW]at C;cases jh:(Tt s (.inl Y)||!c.null)with
      |true=>
       have HQ:=au (show ib s (j (rowOf cs d)) (u (rowOf cs d))=.inl Y by rw[hf,lW];simp only[ib,y,Bool.false_eq_true,if_false];cases hsd:Tt s (.inl Y)<;>simp[hsd]at jh ⊢;simp[jh]);have P:=au (HP.J (.inl Y) _ _ _ _ _ C);rw[<- HQ.J,ap.J]at P;clear hf lW am al y HP;rcases Z with rfl|rfl|rfl<;>rcases U9 with rfl|rfl|rfl<;>cases s<;>first
        | (simp[uO,Tt,gp,pY]at F;done)
        | (simp[Tt,gp,pY]at jh;done)
        | (clear F jh
           simp[kX,gp,pY]at r C;obtain⟨rfl,rfl,rfl,rfl,rfl⟩:=r;obtain⟨rfl,rfl,rfl,rfl,rfl⟩:=C;simp[kE,pY]at s1;go_wp2;go_roundw
           case rel=>exact⟨k+1,by omega,by push_cast;rfl,P⟩
           case measure=>simp[intOf];omega)
      |false=>
       have P:=au (Xa.J (by simp only[hf,lW,ib,y,Bool.false_eq_true,if_false];cases hsd:Tt s (.inl Y)<;>simp[hsd]at jh ⊢;simp[jh]));clear hf lW am al y HP;rcases Z with rfl|rfl|rfl<;>rcases U9 with rfl|rfl|rfl<;>cases s<;>first
        | (simp[uO,Tt,gp,pY]at F;done)
        | (simp[Tt,gp,pY]at jh;done)
        | (clear F jh
           simp[kX,gp,pY]at r C;obtain⟨rfl,rfl,rfl,rfl,rfl⟩:=r;obtain⟨rfl,rfl,rfl,rfl,rfl⟩:=C;simp[kE,pY]at s1;go_wp2;go_roundw
           case rel=>exact⟨k+1,by omega,by push_cast;rfl,au (by rw[<- P.J];exact b1)⟩
           case measure=>simp[intOf];omega)
   obtain rfl:k=ops.length:=(by omega);have ho:=HX.J;rw[eU,uT.J]at ho;have Pw:=au ho.a;clear ho;go_wp2;go_ret;exact⟨_,rfl,Pw.J.own,Pw.J.uk⟩
section
def adJ:Tk->Prop
 |.name s=>0<s.size/\Nm8 s
 |.num n=>n<=9223372036854775807
 |.str s=>s.size<=12/\∀c∈s.data.toList,fX c=true
 |_=>True
def Vl(t:Tok):Prop:=adJ t.k/\t.pl<=300
def zu(b:Nat):Mode->Prop
 |.live t ts=>(Vl t/\b<=t.pl)/\(∀u∈ts,Vl u/\t.pl<=u.pl)/\ts.length<=300/\ts.Pairwise (λx y=>x.pl<=y.pl)
 |.dead e p=>e≠0/\e<=10/\p<=300
variable {b:Nat}
theorem Rk(S:ByteArray)(f:UInt8->Bool)(i:Nat):∀d,i<=d->d<aP S f i->∃h:d<S.size,f S[d]=true:=by
 intro d u e;rw[aP]at e;split at e
 . rename_i r
   split at e
   . rename_i hf
     by_cases j:d=i
     . subst j;exact⟨r,hf⟩
     . exact Rk S f (i+1) d (by omega) e
   . omega
 . omega
 termination_by S.size - i
theorem XC(S:ByteArray)(f:UInt8->Bool)(i:Nat):∀c∈(S.extract i (aP S f i)).data.toList,f c=true:=λc r=>by
 obtain⟨k,d,rfl⟩:=List.getElem_of_mem r;have u:k<(S.extract i (aP S f i)).size:=by rw[<- pD];rw[cW]at d;exact d
 rw[dt]at u;obtain⟨y,j⟩:=Rk S f i (i+k) (by omega) (by omega);have e:(S.extract i (aP S f i)).data.toList[k]=S[i+k]:=by
  simp[ByteArray.getElem_eq_getElem_data,ByteArray.data_extract]
 rw[e];exact j
theorem ZW(S:ByteArray)(i:Nat)(h:i<S.size):adJ (ez S i h).1:=by unfold ez;split;{rename_i u;have y:=dQ S da i h u;have j:=eP S da (i+1);have r:=fY S da i (by omega);simp only;split;{trivial};split;{trivial};show 0<(S.extract _ _).size/\(S.extract _ _).size<=8/\_;rw[dt];exact⟨by omega,by omega,λc d e=>by subst e;cases XC S da i _ d⟩};split;{simp only;split;{trivial};show mN _<=_;omega};split;{simp only;split;{split;{rename_i j r;have A:=eP S fX (i+1);refine⟨?_,λc d=>?_⟩;{show(S.extract _ _).size<=12;rw[dt];omega};exact XC S fX (i+1) c d};trivial};trivial};simp only;split<;>trivial
theorem Rl(S:ByteArray)(e:S.size<=300)(i:Nat):∀t∈dv S i,Vl t:=by
 intro t d;rw[dv]at d;split at d
 . rename_i j
   split at d
   . simp at d;subst d;exact⟨trivial,by show aP S bS i<=300;omega⟩
   . rename_i r
     rw[bq]at d;rcases d with rfl|d
     . exact⟨ZW S _ j,by show aP S bS i<=300;omega⟩
     . have u:=eP S bS i
       have y:=(oF S (aP S bS i) j (by simpa using r)).1;exact Rl S e _ t d
 . simp at d;subst d;exact⟨trivial,e⟩
 termination_by S.size - i
 decreasing_by
 all_goals(simp_wf;omega)
theorem XD(S:ByteArray)(i:Nat)(C:i<=S.size):(∀t∈dv S i,i<=t.pl)/\(dv S i).Pairwise (λx E=>x.pl<=E.pl):=by
 have j:=eP S bS i;rw[dv];split
 . rename_i u
   split
   . exact⟨λt d=>by rw[a6.mp d];exact j,kU _ _⟩
   . rename_i D
     obtain⟨F,A⟩:=oF S (aP S bS i) u (by simpa using D);obtain⟨r,y⟩:=XD S (ez S (aP S bS i) u).2 A;exact⟨λt d=>(bq.mp d).elim (λe=>e ▸ j) (λe=>by have:=r t e;omega),bj.mpr ⟨λt d=>by have:=r t d;show aP S bS i<=t.pl;omega,y⟩⟩
 . exact⟨λt d=>by rw[a6.mp d];exact C,kU _ _⟩
 termination_by S.size - i
 decreasing_by
 all_goals(simp_wf;omega)
theorem adK{S:ByteArray}(u:S.size<=300):zu 0 (Mode.of (dv S 0)):=by have h:=Rl S u 0;have e:=D7 S 0 (aI _);have d:=(XD S 0 (aI _)).2;revert h e d;cases dv S 0 with|nil=>(exactλ_ _ _=>⟨⟨⟨trivial,aI _⟩,aI _⟩,λj d=>by simp at d,by simp,.nil⟩)|cons t y=>exactλh e d=>⟨⟨h t (by simp),aI _⟩,λj r=>⟨h j (by simp[r]),(bj.mp d).1 j r⟩,by rw[aX]at e;omega,(bj.mp d).2⟩
section
variable {m:Mode} (h:zu b m)
include h
theorem zu.next:zu b m.next:=by cases m with|dead r b=>exact h|live t j=>cases j with|nil=>exact h|cons e u=>exact⟨⟨(h.2.1 e (by simp)).1,ag h.1.2 (h.2.1 e (by simp)).2⟩,λx d=>⟨(h.2.1 x (by simp[d])).1,(bj.mp h.2.2.2).1 x d⟩,by have:=h.2.2.1;rw[aX]at this;omega,(bj.mp h.2.2.2).2⟩
theorem zu.up:zu m.place m:=by cases m with|dead d b=>exact h|live t e=>exact⟨⟨h.1.1,ae _⟩,h.2⟩
theorem zu.len:m.len<=301:=by cases m with|dead d b=>exact aI _|live t e=>exact Nat.succ_le_succ h.2.2.1
theorem zu.place:m.place<=300:=by cases m with|dead d b=>exact aI _|live t e=>exact h.1.1.2
theorem zu.wrong(d:r=2\/r=3):zu b (m.wrong r):=by cases m with|dead=>exact h|live t e=>exact⟨by omega,by omega,h.1.1.2⟩
theorem zu.take(s:ByteArray):zu b (m.take s):=by unfold Mode.take;split;{exact h.next};exact h.wrong (.inl rfl)
theorem zu.tk:adJ m.tk:=by cases m with|dead d b=>trivial|live t e=>exact h.1.1.1
theorem zu.name:Nm8 m.name.1.1/\m.name.1.2<=300/\zu b m.name.2:=by unfold Mode.name;have d:=h.tk;split;{rename_i x e;rw[e]at d;exact⟨d.2,h.place,h.next⟩};exact⟨⟨aI _,λ_ h=>nomatch h⟩,aI _,h.wrong (.inl rfl)⟩
end
abbrev Am{α:Type}(P:α->Prop)(one:Mode->α×Mode):Prop:=∀{b:Nat} (m:Mode),zu b m->P (one m).1/\zu b (one m).2
theorem adL{α:Type}{r:α->Prop}{one:Mode->α×Mode}(C:Am r one):∀n l m,zu b m->(∀x∈l,r x)->l≠[]->(∀x∈(jb one n l m).1,r x)/\(jb one n l m).1≠[]/\zu b (jb one n l m).2:=by
 intro n;induction n with
 |zero=>exactλl m e d u=>⟨d,u,e⟩
 |succ n D=>
  intro l m e d u;unfold jb;split
  .obtain⟨y,A⟩:=C _ e.next
   exact D _ _ A (λx j=>by
    rw[bn,a6]at j;rcases j with j|rfl
    . exact d x j
    . exact y) (by simp)
  exact⟨d,u,e⟩
theorem adM{α:Type}(one:Mode->α×Mode):∀n l m,(jb one n l m).1.length<=l.length+n:=by intro n;induction n with|zero=>exactλl m=>ae _|succ n d=>intro l m;unfold jb;split;{have:=d (l++[(one m.next).1]) (one m.next).2;rw[aw,gE]at this;omega};exact xy _ _
theorem Bc{α:Type}{d:α->Prop}{one:Mode->α×Mode}(r:Am d one){m:Mode}(j:zu b m):(dk one m).1.length<=302:=by have e:=adM one (one m).2.len [(one m).1] (one m).2;have u:=(r m j).2.len;unfold dk;rw[gE]at e;omega
theorem uY{α:Type}{P:α->Prop}{one:Mode->α×Mode}(d:Am P one){m:Mode}(u:zu b m):(∀x∈(dk one m).1,P x)/\(dk one m).1≠[]/\zu b (dk one m).2:=by obtain⟨j,r⟩:=d m u;exact adL d _ _ _ r (λx e=>by simp at e;subst e;exact j) (by simp)
def nT(n:Nm):Prop:=n.1.size<=8/\n.2<=300/\∀c∈n.1.data.toList,c≠10
theorem mZ:Am nT Mode.name:=λ_ h=>⟨⟨h.name.1.1,h.name.2.1,h.name.1.2⟩,h.name.2.2⟩
theorem Rm:Am (·<=2) rF:=λm h=>by
 unfold rF;split
 . exact⟨aI _,h.next⟩
 . split
   . exact⟨by show 1<=2;omega,h.next⟩
   . exact⟨by show 2<=2;omega,h.take _⟩
def ah0(c:Nm×Nat):Prop:=nT c.1/\c.2<=2
theorem OH:Am ah0 uy:=λm h=>⟨⟨(mZ m h).1,(Rm _ h.name.2.2).1⟩,(Rm _ h.name.2.2).2⟩
def OI(v:Bs):Prop:=(v.null=true/\v.n=0/\v.s=ByteArray.empty)\/(v.null=false/\((v.kind=0/\cR v.n/\v.s=ByteArray.empty)\/(v.kind=1/\v.n=0/\v.s.size<=12/\∀c∈v.s.data.toList,fX c=true)\/(v.kind=2/\(v.n=0\/v.n=1)/\v.s=ByteArray.empty)))
theorem My:OI PI:=.inr ⟨rfl,.inl ⟨rfl,by unfold cR PI;decide,rfl⟩⟩
theorem Mz:Am OI jR:=λm h=>by
 unfold jR;split
 . have d:=h.next.tk
   split
   . rename_i n e
     rw[e]at d;have j:n<=9223372036854775807:=d;exact⟨.inr ⟨rfl,.inl ⟨rfl,by unfold cR;simp only;omega,rfl⟩⟩,h.next.next⟩
   . exact⟨My,h.next.wrong (.inl rfl)⟩
 . have d:=h.tk
   split
   . rename_i n e
     rw[e]at d;have j:n<=9223372036854775807:=d;exact⟨.inr ⟨rfl,.inl ⟨rfl,by unfold cR;simp only;omega,rfl⟩⟩,h.next⟩
   . rename_i s r
     rw[r]at d;exact⟨.inr ⟨rfl,.inr (.inl ⟨rfl,rfl,d.1,d.2⟩)⟩,h.next⟩
   . split
     . exact⟨.inr ⟨rfl,.inr (.inr ⟨rfl,.inr rfl,rfl⟩)⟩,h.next⟩
     . split
       . exact⟨.inr ⟨rfl,.inr (.inr ⟨rfl,.inl rfl,rfl⟩)⟩,h.next⟩
       . split
         . exact⟨.inl ⟨rfl,rfl,rfl⟩,h.next⟩
         . exact⟨My,h.wrong (.inl rfl)⟩
def Be(r:wj):Prop:=r.vals≠[]/\(∀v∈r.vals,OI v)/\r.vals.length<=302
theorem XE:Am Be kW:=λm h=>by
 obtain⟨d,e,j⟩:=uY Mz (h.take cq);exact⟨⟨e,d,Bc Mz (h.take cq)⟩,j.take _⟩
theorem adN:∀n l m,zu b m->(∀x∈l,Be x)->l≠[]->(∀x∈(mW n l m).1,Be x)/\(mW n l m).1≠[]/\zu b (mW n l m).2:=by
 intro n;induction n with
 |zero=>exactλl m e d r=>⟨d,r,e⟩
 |succ n A=>
  intro l m e d r;unfold mW;split
  .obtain⟨u,y⟩:=XE m e
   exact A _ _ y (λx j=>by
    rw[bn,a6]at j;rcases j with j|rfl
    . exact d x j
    . exact u) (by simp)
  exact⟨d,r,e⟩
theorem adO:∀n l m,(mW n l m).1.length<=l.length+n:=by intro n;induction n with|zero=>exactλl m=>ae _|succ n d=>intro l m;unfold mW;split;{have:=d (l++[(kW m).1]) (kW m).2;rw[aw,gE]at this;omega};exact xy _ _
def Ao:Ex->Prop
 |.num n=>n<=9223372036854775807
 |.str s=>s.size<=12/\∀c∈s.data.toList,fX c=true
 |.neg _ x=>Ao x
 |.not _ x=>Ao x
 |.j8 _ _ x=>Ao x
 |.two _ _ x y=>Ao x/\Ao y
 |_=>True
def JG:Ex->Prop
 |.col _ a=>a<=300
 |.neg a x=>a<=300/\JG x
 |.not a x=>a<=300/\JG x
 |.j8 _ a x=>a<=300/\JG x
 |.two _ a x y=>a<=300/\JG x/\JG y
 |_=>True
def Ap(e:Ex):Prop:=Ao e/\JG e
theorem Rn{o:ByteArray}{a:Nat}{x j:Ex}(r:a<=300)(d:Ap x)(e:Ap j):Ap (.two o a x j):=⟨⟨d.1,e.1⟩,r,d.2,e.2⟩
theorem xd:Ap .junk:=⟨trivial,trivial⟩
abbrev Ro{α:Type}(S:Mode->α×Mode):Prop:=∀{b:Nat} (m:Mode),zu b m->zu b (S m).2
abbrev yU(S:Mode->Ex×Mode):Prop:=Am Ap S
theorem Vm{S:Mode->Ex×Mode}(h:yU S){ops:List ByteArray}:∀n d m,Ap d->zu b m->Ap (fL S ops n d m).1/\zu b (fL S ops n d m).2:=by intro n;induction n with|zero=>exactλd m j e=>⟨j,e⟩|succ n y=>intro d m j e;unfold fL;split;{obtain⟨r,u⟩:=h _ e.next;exact y _ _ (Rn e.place j r) u};exact⟨j,e⟩
theorem yt{S:Mode->Ex×Mode}(h:yU S){ops:List ByteArray}:yU (ll S ops):=λm d=>Vm h _ _ _ (h m d).1 (h m d).2
def ake:Option rN->Prop
 |none=>True
 |some l=>yU l.expr/\yU l.Dl/\yU l.turn
section
variable {sub:Option rN} (h:ake sub)
include h
theorem ZX:yU (ja sub):=λm d=>by
 unfold ja;split
 . cases sub with
   |none=>exact⟨xd,d.wrong (.inr rfl)⟩
   |some l=>exact⟨(h.1 _ d.next).1,(h.1 _ d.next).2.take _⟩
 . have e:=d.tk
   split
   . rename_i n j
     rw[j]at e;exact⟨⟨e,trivial⟩,d.next⟩
   . rename_i s r
     rw[r]at e;exact⟨⟨e,trivial⟩,d.next⟩
   . exact⟨⟨trivial,d.place⟩,d.next⟩
   . split
     . exact⟨⟨trivial,trivial⟩,d.next⟩
     . split
       . exact⟨⟨trivial,trivial⟩,d.next⟩
       . exact⟨xd,d.wrong (.inl rfl)⟩
   . exact⟨xd,d.wrong (.inl rfl)⟩
theorem MA:yU (gL sub):=λm d=>by
 unfold gL;split
 . cases sub with
   |none=>exact⟨xd,d.wrong (.inr rfl)⟩
   |some l=>exact⟨⟨(h.2.2 _ d.next).1.1,d.place,(h.2.2 _ d.next).1.2⟩,(h.2.2 _ d.next).2⟩
 . exact ZX h m d
theorem CS:yU (gb sub):=yt (yt (MA h))
theorem ZY:yU (kP sub):=λm e=>by
 have d:=CS h m e;unfold kP;simp only;split
 . exact⟨Rn d.2.place d.1 (CS h _ d.2.next).1,(CS h _ d.2.next).2⟩
 . split
   . refine⟨⟨d.1.1,d.2.place,d.1.2⟩,?_⟩
     split
     . exact d.2.next.next.take _
     . exact d.2.next.take _
   . exact d
theorem MB:yU (gj sub):=λm d=>by
 unfold gj;split
 . cases sub with
   |none=>exact⟨xd,d.wrong (.inr rfl)⟩
   |some l=>exact⟨⟨(h.2.1 _ d.next).1.1,d.place,(h.2.1 _ d.next).1.2⟩,(h.2.1 _ d.next).2⟩
 . exact ZY h m d
theorem Fm:yU (fE sub):=yt (yt (MB h))
end
theorem Aq:∀d,ake (lvl d)
 |0=>trivial
 |d+1=>⟨Fm (Aq d),MB (Aq d),MA (Aq d)⟩
def OJ(x:Ex×Nat):Prop:=pI x.1/\Ap x.1/\x.2<=300
theorem Bf:Am OJ mO:=λm d=>⟨⟨WT _,(Fm (Aq 8) m d).1,d.place⟩,(Fm (Aq 8) m d).2⟩
theorem Bg{α:Type}{one:Mode->α×Mode}(h:Ro one):Ro (dk one):=λ_ d=>(uY (P:=λ_=>True) (λm d=>⟨trivial,h m d⟩) d).2.2
theorem Z0:Ro Mode.name:=λ_ d=>d.name.2.2
def amQ(c:Nm×(Ex×Nat)):Prop:=nT c.1/\OJ c.2
theorem F8:Am amQ fA:=λm d=>⟨⟨(mZ m d).1,(Bf _ (d.name.2.2.take wJ)).1⟩,(Bf _ (d.name.2.2.take wJ)).2⟩
theorem OL:Ro eC:=λm d=>by
 unfold eC;show zu _ (if _ then _ else _);split
 . exact d.name.2.2.next
 . exact d.name.2.2
theorem MC:Ro jX:=λm e=>by
 have d:=e.name.2.2.take wJ;unfold jX;simp only;split
 . split
   . exact(d.next.take _).take _
   . exact(d.next.take _).name.2.2.take _
 . split
   . exact((d.wrong (.inl rfl)).take _).take _
   . exact((d.wrong (.inl rfl)).take _).name.2.2.take _
def yu(s:eZ):Prop:=s.pl<=300/\(∀x∈s.exprs,OJ x)/\(jN s.word qD=true->(∀n∈s.names,nT n)/\s.names.length<=302/\s.names.zip s.exprs≠[])
theorem JH{m:Mode}(d:zu b m):yu (cH m).1/\zu b (cH m).2:=by have j:=d.place;have ν:∀s:eZ,s.pl<=300->s.exprs=[]->jN s.word qD=false->yu s:=λs r u y=>⟨r,λx e=>(by rw[u]at e;cases e),λh=>(by rw[y]at h;cases h)⟩;unfold cH;split;{exact⟨⟨j,λx e=>by rw[a6.mp e];exact(Bf _ d.next).1,λh=>absurd h (show¬jN dR qD=true by decide)⟩,(Bf _ d.next).2⟩};split;{obtain⟨r,u,y⟩:=uY F8 d.next;refine⟨⟨j,λx e=>?_,λ_=>⟨λx e=>?_,?_,?_⟩⟩,y⟩;{obtain⟨C,A,rfl⟩:=cI.mp e;exact(r C A).2};{obtain⟨C,A,rfl⟩:=cI.mp e;exact(r C A).1};{simp only[List.length_map];exact Bc F8 d.next};show List.zip (List.map _ _) (List.map _ _)≠[];cases hl:(dk fA m.next).1 with|nil=>exact absurd hl u|cons a l=>simp};split;{exact⟨ν _ j rfl (show jN tK qD=false by decide),((d.next.name.2.2.take zj).name.2.2.take wJ).name.2.2⟩};split;{refine⟨ν _ j rfl (show jN pW qD=false by decide),?_⟩;simp only;split;{exact Bg MC _ ((Bg Z0 _ d.next).take iR)};exact Bg MC _ (d.next.take iR)};split;{exact⟨ν _ j rfl (show jN qE qD=false by decide),Bg OL _ d.next⟩};simp only;split;{exact⟨ν _ j rfl (show jN dJ qD=false by decide),(d.take dJ).next⟩};exact⟨ν _ j rfl (show jN dJ qD=false by decide),(d.take dJ).wrong (.inl rfl)⟩
theorem JI(m:Mode):(cH m).1.pl=m.place:=by unfold cH;split;{rfl};split;{rfl};split;{rfl};split;{rfl};split;{rfl};simp only;split<;>rfl
theorem Vn:∀n l m b,zu b m->∃e,(cO n l m).1=l++e/\(∀x∈e,yu x/\b<=x.pl)/\e.length<=n/\e.Pairwise (λx M=>x.pl<=M.pl):=by intro n;induction n with|zero=>(exactλl m b _=>⟨[],by simp[cO],λx d=>(by cases d),ae _,.nil⟩)|succ n I=>intro l m b A;unfold cO;split;{rename_i H;obtain⟨D,E⟩:=JH A.next.up;have u:=JI m.next;have y:b<=m.next.place:=(by have C:=A.next;cases m with|dead j b=>cases H|live t K=>cases K with|nil=>exact C.1.2|cons P Q=>exact C.1.2);obtain⟨e,F,r,O,G⟩:=I (l++[(cH m.next).1]) _ _ E;exact⟨(cH m.next).1::e,by rw[F];simp,λx d=>(bq.mp d).elim (λj=>j ▸ ⟨D,by rw[u];exact y⟩) (λj=>⟨(r x j).1,ag y (r x j).2⟩),by rw[aX];omega,bj.mpr ⟨λx d=>by rw[u];exact(r x d).2,G⟩⟩};exact⟨[],by simp,λx d=>(by cases d),aI _,.nil⟩
theorem adP{m:Mode}(d:zu b m)(s:ByteArray):(m.take s).len<=300:=by unfold Mode.take;cases m with|dead r b=>split<;>exact aI _|live t e=>split;{cases e with|nil=>show 0+1<=300;omega|cons u j=>have:=d.2.2.1;rw[aX]at this;show j.length+1<=300;omega};exact aI _
def Vo:Bt->Prop
 |.create t cols=>nT t/\cols≠[]/\(∀c∈cols,nT c.1/\c.2<=2)/\cols.length<=302
 |.drop t=>nT t
 |.load t rows=>nT t/\rows≠[]/\(∀r∈rows,Be r)/\rows.length<=302
 |.BP u t cols e _=>nT u/\nT t/\cols≠[]/\(∀n∈cols,nT n)/\cols.length<=302/\pI e
 |.ED u t=>nT u/\nT t
 |.query ss=>∃s r,ss=s::r/\nT s.table/\s.pl<=300/\(∀x∈r,yu x)/\r.length<=300/\ss.Pairwise (λx y=>x.pl<=y.pl)
theorem Rp{m:Mode}(d:zu b m):Vo (bO m).1:=by unfold bO;split;{have e:=d.next.name.2.2.take cq;exact⟨(mZ _ d.next).1,(uY OH e).2.1,(uY OH e).1,Bc OH e⟩};split;{exact(mZ _ d.next).1};split;{obtain⟨e,A⟩:=XE _ d.next.name.2.2;obtain⟨r,u,-⟩:=adN (kW m.next.name.2).2.len [(kW m.next.name.2).1] (kW m.next.name.2).2 A (λx j=>by simp at j;subst j;exact e) (by simp);have y:=adO (kW m.next.name.2).2.len [(kW m.next.name.2).1] (kW m.next.name.2).2;have C:=A.len;exact⟨(mZ _ d.next).1,u,r,by rw[gE]at y;show List.length _<=302;omega⟩};split;{have e:=(d.next.name.2.2.take zj).name.2.2.take cq;exact⟨(mZ _ d.next).1,(mZ _ (d.next.name.2.2.take zj)).1,(uY mZ e).2.1,(uY mZ e).1,Bc mZ e,WT _⟩};split;{exact⟨(mZ _ d.next).1,(mZ _ (d.next.name.2.2.take zj)).1⟩};have e:=(mZ _ (d.take fB)).1;obtain⟨D,r,u,y,C⟩:=Vn (m.take fB).name.2.len [{ bare fB m.place with table:=(m.take fB).name.1 }] (m.take fB).name.2 m.place (d.up.take fB).name.2.2;exact⟨_,D,r,e,d.place,λx j=>(u x j).1,ag y (ag (dW _) (adP d fB)),by rw[r];exact bj.mpr ⟨λx j=>(u x j).2,C⟩⟩
theorem F9:∀n l m b,zu b m->∃d,zu d (cO n l m).2
 |0,_,_,b,h=>⟨b,h⟩
 |n+1,l,m,b,h=>by
   unfold cO;split
   . exact F9 n _ _ _ (JH h.next).2
   . exact⟨b,h⟩
theorem Rq{S:ByteArray}{c:Bt}(h:fg S=.inl c):Vo c:=by unfold fg at h;split at h;{cases h};rename_i d;simp only at h;split at h;{cases h};{cases h;exact Rp (adK (by omega))};cases h
end
structure Bd (m m':Mode)(n n' k:Nat):Prop where
 hi:k<n'
 gr:n<n'
 bud:n'+m'.len<=n+m.len+m'.due
theorem Bd.len{m m':Mode}{n n' k:Nat}(h:Bd m m' n n' k):m'.len<=m.len:=by have d:=h.gr;have e:=h.bud;have j:=wm m';omega
def PF(f:Nat)(S:Option rN->Mode->Ex×Mode)(d:Nat):Prop:=
 ∀(o:ω×υ) (w:ω) (p:Nat) (c:gO) (v:υ) (m:Mode) (n:Nat),Rd o w p c v m n->c.deep+d=8->n+m.len<=600->
   Calls prog f #[π (σ ⟨p,0,ν⟩)] w λr w'=>∃(v':υ) (n' k:Nat),r=τ (ι κ k)/\Rd o w' p c v' (S (lvl d) m).2 n'/\Fq p v v' w w'/\Bd m (S (lvl d) m).2 n n' k
theorem or3(a b c:Bool):(a=false/\b=false/\c=false)\/a=true\/(a=false/\b=true)\/(a=false/\b=false/\c=true):=by cases a<;>cases b<;>cases c<;>simp
theorem or2(a b:Bool):(a=false/\b=false)\/a=true\/(a=false/\b=true):=by cases a<;>cases b<;>simp
theorem or1(a:Bool):a=false\/a=true:=by cases a<;>simp
theorem Bd.two{m d e:Mode}{n k:Nat}(a:Bd m d n r k)(u:d.alive)(D:d.next.len+1=d.len)(b:Bd d.next e r V G):Bd m e n (V+1) V:=by have j:=a.bud;have y:=b.bud;have A:=a.gr;have C:=b.gr;rw[sG u]at j;exact⟨by omega,by omega,by omega⟩
theorem yH(e:Nat):(PF 215 gL e->PF 186 BO e)/\(PF 186 BO e->PF 161 gb e)/\(PF 100 gj e->PF 72 yP e)/\(PF 72 yP e->PF 53 fE e):=by
 refine⟨λA=>?_,λA=>?_,λA=>?_,λA=>?_⟩;all_goals
  intro o w p c v m n h R hf;unfold PF at A;first
   | (obtain⟨S,r⟩:=nm (gL (lvl e));obtain⟨u,j⟩:=nm pQ;rw[<- r]at A;rw[show BO (lvl e) m=fL S u (S m).2.len (S m).1 (S m).2 from by rw[r,j];rfl];have C:=au j;clear r j;go_in)
   | (obtain⟨S,r⟩:=nm (BO (lvl e));obtain⟨u,j⟩:=nm oH;rw[<- r]at A;rw[show gb (lvl e) m=fL S u (S m).2.len (S m).1 (S m).2 from by rw[r,j];rfl];have C:=au j;clear r j;go_in)
   | (obtain⟨S,r⟩:=nm (gj (lvl e));obtain⟨u,j⟩:=nm tN;rw[<- r]at A;rw[show yP (lvl e) m=fL S u (S m).2.len (S m).1 (S m).2 from by rw[r,j];rfl];have C:=au j;clear r j;go_in)
   | (obtain⟨S,r⟩:=nm (yP (lvl e));obtain⟨u,j⟩:=nm vB;rw[<- r]at A;rw[show fE (lvl e) m=fL S u (S m).2.len (S m).1 (S m).2 from by rw[r,j];rfl];have C:=au j;clear r j;go_in)
  go_wp2_with fail;refine(A o w p c v m n h R hf).mono ?_;rintro H w1 ⟨v1,n1,k,rfl,h1,f1,Y⟩;go_wp2_with fail;go_loopw[3] (λa wr=>∃(k:Nat) (v':υ) (m':Mode) (n':Nat) (M:Ex) (f:Nat),a=ι κ k/\Rd o wr p c v' m' n'/\Fq p v v' w wr/\Bd m m' n n' k/\m'.len<=f/\Hid (fL S u f M m'=fL S u (S m).2.len (S m).1 (S m).2)) (λ_ wr=>2000 - lenOf ((wr.cell? ⟨p,19,ν⟩).getD undef));case atStart=>exact⟨k,_,_,_,_,_,rfl,h1,f1,Y,ae _,au rfl⟩
  case round=>
   obtain⟨V,v',m',n',M,f,rfl,D,P,E,CT,K⟩:=hrel;obtain⟨_,t,i,_,_,c3,c4,_,_⟩:=D.cells;first
    | (have _q:Hid (u=pQ):=C;rcases or3 (m'.is (ByteArray.mk #[42])) (m'.is (ByteArray.mk #[47])) (m'.is (ByteArray.mk #[37]))with⟨d,y,G⟩|d|⟨d,y⟩|⟨d,y,G⟩)
    | (have _q:Hid (u=oH):=C;rcases or2 (m'.is (ByteArray.mk #[43])) (m'.is (ByteArray.mk #[45]))with⟨d,y⟩|d|⟨d,y⟩)
    | (have _q:Hid (u=tN):=C;rcases or1 (m'.is (ByteArray.mk #[97,110,100]))with d|d)
    | (have _q:Hid (u=vB):=C;rcases or1 (m'.is (ByteArray.mk #[111,114]))with d|d)
   {have W:=au ((Io (by rw[C.J];first|(simp[pQ,bs,d,y,G];done)|(simp[oH,bs,d,y];done)|(simp[tN,bs,d];done)|(simp[vB,bs,d];done))).symm.trans K.J);go_wp2_with(go_at_call 35;refine(D.is _).mono ?_;rintro r' w' ⟨rfl,rfl⟩);go_ret;refine⟨v',n',V,rfl,?_⟩;rw[<- W.J];exact⟨D,P,E⟩};all_goals obtain⟨I,U,T⟩:∃I,m'.is I=true/\u.find? (λo=>m'.is o)=σ I:=(by rw[C.J];first|exact⟨_,G,by simp[pQ,bs,d,y,G]⟩|exact⟨_,y,by simp[pQ,bs,d,y]⟩|exact⟨_,d,by simp[pQ,bs,d]⟩|exact⟨_,y,by simp[oH,bs,d,y]⟩|exact⟨_,d,by simp[oH,bs,d]⟩|exact⟨_,d,by simp[tN,bs,d]⟩|exact⟨_,d,by simp[vB,bs,d]⟩);obtain⟨O,Z,e5⟩:=D.live U;obtain⟨f,rfl⟩:∃g,f=g+1:=⟨f - 1,by omega⟩;have xE:=au (Im K.J T);have ny:=E.bud;rw[sG O]at ny;clear U T;go_wp2_with(go_at_call 35;refine(D.is _).mono ?_;rintro r' w' ⟨rfl,rfl⟩);refine(D.next Z).mono ?_;rintro H w2 ⟨rfl,h3,f3⟩;clear c3 c4;go_wp2_with fail;refine(A o w2 p c v' m'.next n' h3 R (by omega)).mono ?_;rintro H w3 ⟨v3,n3,aa,rfl,h4,f4,F⟩;have iw:=F.bud;have cQ:=F.gr;have am:=E.hi;have al:=wm (S m'.next).2;have ad:=F.len;go_wp2_with fail;refine(h4.two _ _ V aa (by omega) (by omega)).mono ?_;rintro H w4 ⟨v4,rfl,Q,f5⟩;have B:=E.two O e5 F;have ac:=Q.apj;have ab:=D.apj;go_wp2_with fail;go_roundw;(case rel=>exact⟨n3,v4,_,_,_,f,rfl,Q,P.trans (f3.trans (f4.trans f5)),B,by omega,xE⟩);case measure=>rw[ac,ab];omega
theorem M8(d:Nat)(e:PF 215 gL d):PF 186 BO d:=(yH d).1 e
theorem M9(d:Nat)(e:PF 186 BO d):PF 161 gb d:=(yH d).2.1 e
theorem Sy(d:Nat)(e:PF 100 gj d):PF 72 yP d:=(yH d).2.2.1 e
theorem SB(d:Nat)(e:PF 72 yP d):PF 53 fE d:=(yH d).2.2.2 e
theorem iX.grown{w w':ω}{p:Nat}{x:gO}{m:Mode}{ns:List lh}{row:Option Nat}(h:iX d w p x m ns)(r:w.grownBy w' row)(u:∀g,row=σ g->g≠p/\x.nodes.ownBlock≠σ g/\¬d g):iX d w' p x m ns/\aY d w w':=by have j:aY d w w':=(aY.refl d w).grown r h.old (λk e=>(u k e).2.2);have y:=h.pen.lt;refine⟨⟨h.pen.kG (r.block p y (λe=>(u p e.symm).1 rfl)),?_,h.p0,h.Cp,h.pos,h.tk,h.tn,h.tp,h.mode,h.own.kept r ?_,h.apart,h.k0,h.kp,h.kv,λk A=>ai (h.old k A) j.size⟩,j⟩;{intro i s C;exact(j.cell (p:=(Ad 0 i)) h.k0).trans (h.laid i s C)};cases row with|none=>cases hb:x.nodes.ownBlock<;>simp|some g=>exact .inr (u g rfl).2.1
theorem iX.field{w:ω}{p:Nat}{x e:gO}{m:Mode}{ns:List lh}(h:iX d w p x m ns)(i:Nat)(v:υ)(Q:(jy x).setIfInBounds i v=jy e)(G:(e.S,e.pos,e.tk,e.tt,e.tp,e.tn,e.e,e.bad,e.nodes)=(x.S,x.pos,x.tk,x.tt,x.tp,x.tn,x.e,x.bad,x.nodes)) :
 iX d (w.setCell (Ad p i) v) p e m ns/\aY d w (w.setCell (Ad p i) v):=by simp only[Prod.mk.injEq]at G;obtain⟨j,F,K,T,I,H,D,P,A⟩:=G;have C:aY (Other p w) w (w.setCell (Ad p i) v):=(aY.refl _ _).own i _;refine⟨⟨h.pen.set i v Q,h.laid.keeps C h.p0,h.p0,by rw[j];exact h.Cp,by rw[j,F];exact h.pos,by rw[K];exact h.tk,by rw[H];exact h.tn,by rw[j,I];exact h.tp,?_,by rw[A];exact h.own.kept (grownBy_setCell w (Ad p i) v) (.inr h.apart),by rw[A];exact h.apart,h.k0,h.kp,by rw[A];exact h.kv,λk R=>by simpa[World.setCell]using h.old k R⟩,C.mono h.other⟩;have E:=h.mode;cases m with|dead U b=>(obtain⟨r,u,y⟩:=E;exact⟨by rw[D];exact r,by rw[P];exact u,y⟩)|live t V=>obtain⟨r,u,y,M,O⟩:=E;exact⟨by rw[D];exact r,by rw[K,T,H];exact u,by rw[I];exact y,by rw[j,F];exact M,O⟩
inductive Item where
 | box (b:Nat) (cs:Array υ) (t:TypeId)
 | row (s:υ) (t:TypeId) (z q:Nat)
def Item.fQ:Item->Option Nat
 |.box b _ _=>σ b
 |.row s _ _ _=>s.ownBlock
def Item.ok(lo:Nat)(w:ω):Item->Prop
 |.box b cs t=>w.heap[b]?=σ (ξ cs t (0,0))/\lo<=b
 |.row s t z q=>∃xs,w.ownsRow lo t z s q xs
structure St (o:ω×υ)(w:ω)(p:Nat)(c:gO)(v:υ)(m:Mode)(n:Nat)(L:List Item):Prop where
 rd:Rd o w p c v m n
 ok:∀a∈L,a.ok o.1.heap.size w/\∀g,a.fQ=σ g->g≠p/\v.ownBlock≠σ g
 ap:L.Pairwise λa b=>∀g,a.fQ=σ g->b.fQ≠σ g
section
variable {o:ω×υ} {w w':ω} {p b lo g cap q z:Nat} {c c':gO} {v v' s:υ} {m m':Mode} {n n':Nat} {L:List Item} {a:Item} {cs:Array υ} {t:TypeId} {xs:List υ}
theorem Item.ok.move(h:a.ok lo w)(d:∀g,a.fQ=σ g->w'.heap[g]?=w.heap[g]?):a.ok lo w':=by cases a with|box b cs t=>exact⟨(d b rfl).trans h.1,h.2⟩|row s t z q=>obtain⟨xs,h⟩:=h;refine⟨xs,h.1,?_⟩;rcases h.2 with j|⟨g,cap,cur,e,u,r,y⟩;{exact .inl j};exact .inr ⟨g,cap,cur,e,u,(d g (by show s.ownBlock=_;rw[e];rfl)).trans r,y⟩
theorem Item.ok.lt(h:a.ok lo w)(d:a.fQ=σ g):g<w.heap.size/\lo<=g:=by cases a with|box b cs t=>cases d;exact⟨(dq.mp h.1).1,h.2⟩|row s t z q=>obtain⟨xs,h⟩:=h;exact⟨(h.lt g d).2,(h.lt g d).1⟩
theorem Rd.away(h:Rd o w p c v m n)(e:w.heap.size<=b):b≠p/\v.ownBlock≠σ b:=by obtain⟨x,ns,q,_,rfl,_⟩:=h.ex;have:=q.pen.lt;exact⟨by omega,λd=>by have:=(q.own.lt b d).2;omega⟩
theorem Rd.put(h:Rd o w p c v m n)(r:o.1.heap.size<=b)(e:b≠p)(j:v.ownBlock≠σ b)(i:Nat)(u:υ):Rd o (w.setCell (Ad b i) u) p c v m n:=by obtain⟨x,ns,q,y,rfl,rfl⟩:=h.ex;have C:=h.lo;have A:=(q.less (K':=λk=>Oth p x.nodes w k/\k≠b) (λ_ d=>d.1) ⟨q.k0,by omega⟩).put e j (λd=>d.2 rfl) i u;exact⟨⟨x,ns,A.more ⟨by simpa[World.setCell]using q.k0.1,q.k0.2.1,q.k0.2.2⟩ (λk d=>.inr ⟨d.2.1,d.2.2,d.1⟩),y,rfl,rfl⟩,⟨h.fr.keeps.setCell (p:=(Ad b i)) (λd=>Nat.not_lt.mpr r d.1) u,h.fr.own⟩,h.lo⟩
theorem Rd.grown{row:Option Nat}(h:Rd o w p c v m n)(r:w.grownBy w' row)(j:∀g,row=σ g->o.1.heap.size<=g/\g≠p/\v.ownBlock≠σ g):Rd o w' p c v m n:=by obtain⟨x,ns,q,u,rfl,rfl⟩:=h.ex;have A:=h.lo;obtain⟨y,_⟩:=(q.less (K':=λk=>Oth p x.nodes w k/\row≠σ k) (λ_ d=>d.1) ⟨q.k0,λe=>by have:=j 0 e;omega⟩).grown r (λg e=>⟨(j g e).2.1,(j g e).2.2,λd=>d.2 e⟩);exact⟨⟨x,ns,y.more ⟨ai q.k0.1 r.size,q.k0.2.1,q.k0.2.2⟩ (λk d=>.inr ⟨d.2.1,d.2.2,d.1⟩),u,rfl,rfl⟩,⟨h.fr.keeps.grown r (λk d=>ai d.1 h.fr.keeps.size) (λk e d=>by have:=(j k e).1;have:=d.1;omega),h.fr.own⟩,h.lo⟩
theorem Rd.fld(h:Rd o w p c v m n)(i:Nat)(e:υ)(C:∀x,ND c x->∃d,(jy x).setIfInBounds i e=jy d/\ND c' d/\(d.S,d.pos,d.tk,d.tt,d.tp,d.tn,d.e,d.bad,d.nodes)=(x.S,x.pos,x.tk,x.tt,x.tp,x.tn,x.e,x.bad,x.nodes)) :
 Rd o (w.setCell (Ad p i) e) p c' v m n/\Fq p v v w (w.setCell (Ad p i) e):=by
 obtain⟨x,ns,q,y,rfl,rfl⟩:=h.ex;obtain⟨d,r,A,j⟩:=C x y;obtain⟨E,D⟩:=q.field i e r j;have u:d.nodes=x.nodes:=by simp only[Prod.mk.injEq]at j;exact j.2.2.2.2.2.2.2.2
 exact u ▸ h.Ip A E D
theorem St.call(S:St o w p c v m n L)(h:Rd o w' p c' v' m' n')(f:Fq p v v' w w'):St o w' p c' v' m' n' L:=
 ⟨h,λa j=>by
  obtain⟨k,q⟩:=S.ok a j;exact⟨k.move λg d=>f.keeps.block g ⟨(k.lt d).1,q g d⟩,λg d=>⟨(q g d).1,λe=>(f.own g e).elim (q g d).2 (by have:=(k.lt d).1;omega)⟩⟩,S.ap⟩
theorem St.below(S:St o w p c v m n L)(b:δ w.heap.size w w'):St o w' p c v m n L:=S.call (S.rd.below b) (Fq.below b)
theorem St.alloc(S:St o w p c v m n L)(d:Obj):St o (w.alloc d) p c v m n L:=S.below ((ah _ _).alloc (ae _) d)
theorem St.cons(S:St o w p c v m n L)(h:a.ok o.1.heap.size w/\∀g,a.fQ=σ g->g≠p/\v.ownBlock≠σ g)(r:∀g,a.fQ=σ g->∀b∈L,b.fQ≠σ g):St o w p c v m n (a::L):=
 ⟨S.rd,λu d=>by rcases bq.mp d with rfl|d;exact h;exact S.ok _ d,bj.mpr ⟨λb e g j=>r g j b e,S.ap⟩⟩
theorem St.new(S:St o w p c v m n L)(cs:Array υ)(t:TypeId):St o (w.alloc (ξ cs t)) p c v m n (.box w.heap.size cs t::L):=by refine(S.alloc _).cons ⟨⟨ak w _,S.rd.fr.keeps.size⟩,λg d=>?_⟩ (λg d b j e=>?_);{cases d;exact S.rd.away (ae _)};cases d;have:=((S.ok b j).1.lt e).1;omega
theorem St.wF(S:St o w p c v m n L)(c1:Array υ)(d:TypeId)(c2:Array υ)(e:TypeId):St o ((w.alloc (ξ c1 d)).alloc (ξ c2 e)) p c v m n (.box (w.heap.size+1) c2 e::.box w.heap.size c1 d::L):=by have h:=(S.new c1 d).new c2 e;rwa[show(w.alloc (ξ c1 d)).heap.size=w.heap.size+1 from by simp]at h
theorem St.SC(S:St o w p c v m n L)(c1:Array υ)(d:TypeId)(c2:Array υ)(e:TypeId)(c3:Array υ)(j:TypeId):St o (((w.alloc (ξ c1 d)).alloc (ξ c2 e)).alloc (ξ c3 j)) p c v m n (.box (w.heap.size+1+1) c3 j::.box (w.heap.size+1) c2 e::.box w.heap.size c1 d::L):=by have h:=(S.wF c1 d c2 e).new c3 j;rwa[show((w.alloc (ξ c1 d)).alloc (ξ c2 e)).heap.size=w.heap.size+1+1 from by simp]at h
theorem St.nil(S:St o w p c v m n L)(t:TypeId)(z:Nat):St o w p c v m n (.row (ψ ν 0 0) t z 0::L):=
 S.cons ⟨⟨[],iJ _ _ _ _⟩,λg d=>by cases d⟩ (λg d=>by cases d)
theorem St.mr(S:St o w p c v m n (a::L)):St o w p c v m n (L++[a]):=
 ⟨S.rd,λd j=>S.ok d (by simpa[or_comm]using j),by
  have h:=bj.mp S.ap;exact kL.mpr ⟨h.2,kU _ _,λx u A y g r e=>by cases a6.mp y;exact h.1 x u g e r⟩⟩
theorem St.drop(S:St o w p c v m n (a::L)):St o w p c v m n L:=⟨S.rd,λa d=>S.ok a (cz _ d),(bj.mp S.ap).2⟩
theorem St.put(S:St o w p c v m n (.box b cs t::L))(i:Nat)(u:υ):St o (w.setCell (Ad b i) u) p c v m n (.box b (cs.setIfInBounds i u) t::L):=by obtain⟨⟨D,j⟩,e⟩:=S.ok _ (dw ..);have h:=bj.mp S.ap;refine⟨S.rd.put j (e b rfl).1 (e b rfl).2 i u,λa d=>?_,bj.mpr h⟩;rcases bq.mp d with rfl|d;{exact⟨⟨aQ w b i _ _ u D,j⟩,e⟩};obtain⟨A,C⟩:=S.ok a (cz _ d);exact⟨A.move λg y=>az _ _ _ _ (λr=>h.1 a d b rfl ((show g=b from r) ▸ y)),C⟩
theorem St.app(S:St o w p c v m n (.row s t z q::L))(G:w'.ownsRow o.1.heap.size t z (ψ (σ (Ad g 0)) r cap) r xs)(A:w.grownBy w' s.ownBlock)(d:s.ownBlock=σ g\/w.heap.size<=g) :
 St o w' p c v m n (.row (ψ (σ (Ad g 0)) r cap) t z r::L):=by obtain⟨I,D⟩:=S.ok _ (dw ..);have h:=bj.mp S.ap;have F:=S.rd.grown A (λg e=>⟨(I.lt e).2,D g e⟩);refine⟨F,λa y=>?_,bj.mpr ⟨λb E u j e=>?_,h.2⟩⟩;{rcases bq.mp y with rfl|y;{refine⟨⟨_,G⟩,λu j=>?_⟩;cases j;rcases d with d|d;{exact D g d};exact S.rd.away d};obtain⟨C,H⟩:=S.ok a (cz _ y);exact⟨C.move λu j=>A.block u (C.lt j).1 (λe=>h.1 a y u e.symm j),H⟩};cases j;rcases d with d|d;{exact h.1 b E g d e};exact absurd ((S.ok b (cz _ E)).1.lt e).1 (Nat.not_lt.mpr d)
theorem St.box(S:St o w p c v m n (.box b cs t::L)):w.heap[b]?=σ (ξ cs t (0,0)):=(S.ok _ (dw ..)).1.1
theorem St.row(S:St o w p c v m n (.row s t z q::L)):∃xs,w.ownsRow o.1.heap.size t z s q xs:=(S.ok _ (dw ..)).1
theorem St.slice(S:St o w p c v m n (.row s t z q::L)):∃a d,s=ψ a q d:=by obtain⟨xs,h⟩:=S.row;rcases h.2 with⟨j,e⟩|⟨g,cap,_,r,_⟩;{exact⟨_,_,by rw[j,e]⟩};exact⟨_,_,r⟩
theorem St.one(S:St o w p c v m n (.box b cs t::L))(j:cs.size=z):St o w p c v m n (.row (ψ (σ (Ad b 0)) 1 1) t z 1::L):=by obtain⟨⟨r,u⟩,y⟩:=S.ok _ (dw ..);exact S.drop.cons ⟨⟨cs.toList,by simpa using j,.inr ⟨b,1,cs,rfl,u,r,by omega,by decide,by omega,by rw[aL (by simp;omega)]⟩⟩,λg d=>by cases d;exact y b rfl⟩ (λg d a e=>by cases d;exact(bj.mp S.ap).1 a e b rfl)
theorem Rd.start(h:Rd o w p c v m n):St (w,v) w p c v m n []:=⟨⟨h.ex,Fq.refl p v w,h.lt⟩,(λ_ h=>by cases h),.nil⟩
theorem St.fin(S:St (w,v) w' p c' v' m' n' L)(h:Rd o w p c v m n):Rd o w' p c' v' m' n'/\Fq p v v' w w':=⟨⟨S.rd.ex,h.fr.trans S.rd.fr,h.lo⟩,S.rd.fr⟩
theorem vU{a b c:υ}(h:w.heap[r]?=σ (ξ #[a,b,c,y,e] t (0,0))) :
 w.cell? (Ad r 0)=σ a/\w.cell? (Ad r 1)=σ b/\w.cell? (Ad r 2)=σ c/\w.cell? (Ad r 3)=σ y/\w.cell? (Ad r 4)=σ e:=by simp[World.cell?,h]
theorem kT{a b:υ}(h:w.heap[r]?=σ (ξ #[a,b] t (0,0))):w.cell? (Ad r 0)=σ a/\w.cell? (Ad r 1)=σ b:=by simp[World.cell?,h]
theorem bZ(h:w.heap[r]?=σ (ξ cs t (0,0)))(i:Nat):w.frozen? (Ad r i)=false:=by simp[World.frozen?,h]
end
section
variable {o:ω×υ} {w w' w'':ω} {p:Nat} {c x x':gO} {v v' v'':υ} {m m':Mode} {n n' k:Nat} {ns:List lh}
theorem Rd.ayq(h:Rd o w p c v m n)(e:Nat):Rd o (w.setCell (Ad p 8) (ι κ e)) p { c with deep:=e } v m n/\Fq p v v w (w.setCell (Ad p 8) (ι κ e)):=by obtain⟨x,ns,q,d,rfl,rfl⟩:=h.ex;have j:aY (Other p w) w (w.setCell (Ad p 8) (ι κ e)):=(aY.refl _ _).own 8 _;refine h.Ip (x':={ x with deep:=e }) ⟨rfl,d.word,d.names,d.kinds,d.rows,d.fD,d.form⟩ ⟨q.pen.set 8 _ (by simp[jy]),q.laid.keeps j q.p0,q.p0,q.Cp,q.pos,q.tk,q.tn,q.tp,?_,q.own.kept (grownBy_setCell w (Ad p 8) _) (.inr q.apart),q.apart,q.k0,q.kp,q.kv,λk r=>by simpa[World.setCell]using q.old k r⟩ (j.mono q.other);have:=q.mode;cases m<;>exact this
theorem Rd.up(h:Rd o w p { c with deep:=c.deep+1 } v m n):w.cell? (Ad p 8)=σ (ι κ ((c.deep:Int)+1))/\w.frozen? (Ad p 8)=false/\Rd o (w.setCell (Ad p 8) (ι κ c.deep)) p c v m n/\Fq p v v w (w.setCell (Ad p 8) (ι κ c.deep)):=by have⟨x,ns,q,e,_⟩:=h.ex;have d:x.deep=c.deep+1:=e.deep;exact⟨(q.pen.cell 8).trans (by show σ (Value.int κ (x.deep:Int))=_;rw[d];rfl),q.pen.fz 8,h.ayq c.deep⟩
theorem Bd.dead(h:¬m'.alive):Bd m m' n (n+1) n:=⟨by omega,by omega,by rw[(pG h).1,(pG h).2];omega⟩
theorem Bd.over(h:Bd m.next m' n n' k)(j:m.next.len+1=m.len):Bd m m' n (n'+1) n':=by have d:=h.bud;have e:=h.gr;exact⟨by omega,by omega,by omega⟩
theorem Rd.afe(h:Rd o w p c v m n)(r:k<n):∃g cap,v=ψ (σ (Ad g 0)) n cap/\w.cell? (Ad p 19)=σ (ψ (σ (Ad g 0)) n cap)/\g≠p/\w.frozen? (Ad g (k*7+2))=false/\∃i:Nat,w.cell? (Ad g (k*7+2))=σ (ι κ i):=by obtain⟨x,ns,q,u,rfl,rfl⟩:=h.ex;have⟨g,cap,d,j⟩:=q.slice (by omega);refine⟨g,cap,d,(q.pen.cell 19).trans (by rw[<- d];rfl),λe=>q.apart (by rw[d,e];rfl),by have:=q.own;rw[d]at this;exact this.frozenAt _,_,(j _ (by omega)).trans (Dt ns k _ (af r))⟩
end
theorem aiO{s:Option rN}{m:Mode}(h:m.is oG=false):gL s m=ja s m:=aE (by rw[h];decide)
theorem aiP{s:Option rN}{m:Mode}(h:m.is y9=false):gj s m=kP s m:=aE (by rw[h];decide)
theorem Ib(d:Nat):(PF 239 ja 0->PF 215 gL 0)/\(PF 239 ja (d+1)->PF 215 gL d->PF 215 gL (d+1))/\(PF 133 kP 0->PF 100 gj 0)/\(PF 133 kP (d+1)->PF 100 gj d->PF 100 gj (d+1)):=by
 refine⟨λe=>?_,λe y=>?_,λe=>?_,λe y=>?_⟩;all_goals
  intro o w p c v m n h P hf;have⟨_,_,i,_,_,_,c4,_,_⟩:=h.cells;(first|(have _q:PF 239 ja _:=e;cases BT:m.is (ByteArray.mk #[45]))|cases BT:m.is (ByteArray.mk #[110,111,116]));all_goals
   first
    |go_in
    |go_in
   go_wp2_with(go_at_call 35;refine(h.is _).mono ?_;rintro r' w' ⟨rfl,rfl⟩);first
    | (refine(e o w p c v m n h P hf).mono ?_
       rintro j w1 ⟨U,R,k,rfl,q⟩;go_wp2;go_ret
       first|rw[aiO BT]|rw[aiP BT]
       exact⟨U,R,k,rfl,q⟩)
    | (refine(h.PW (by omega)).mono ?_
       rintro j w1 ⟨rfl,u,r⟩;go_wp2_with fail;refine(u.node ⟨⟨#[]⟩,0,0,0,0,0,⟨#[]⟩⟩ (by omega)).mono ?_;rintro j w2 ⟨V,rfl,I,E⟩;go_wp2;go_ret
       first|rw[show gL (lvl 0) m=(.junk,m.wrong 3)from aF BT]|rw[show gj (lvl 0) m=(.junk,m.wrong 3)from aF BT]
       exact⟨V,_,n,rfl,I,r.trans E,Bd.dead (dz m 3)⟩)
    | (have⟨Z,C,D⟩:=h.live BT
       refine(h.down C (by omega)).mono ?_;rintro j w1 ⟨rfl,u,r⟩;go_wp2_with fail;refine(y o w1 p _ v m.next n u (by show c.deep+1+d=8;omega) (by omega)).mono ?_;rintro j w3 ⟨v3,T,Q,rfl,K,F,A⟩;have⟨Y,z8,M,G⟩:=K.up;have hb:=A.bud;have aa:=And.intro (wm (gL (lvl d) m.next).2) (wm (gj (lvl d) m.next).2);go_wp2_with fail;refine(M.node ⟨_,i,i,Q,0,0,⟨#[]⟩⟩ (by omega)).mono ?_;rintro j w5 ⟨W,rfl,O,H⟩;go_wp2;go_ret
       first
        |rw[show gL (lvl (d+1)) m=(.neg m.place (gL (lvl d) m.next).1,(gL (lvl d) m.next).2)from aF (show m.is oG=true from BT)]
        |rw[show gj (lvl (d+1)) m=(.not m.place (gj (lvl d) m.next).1,(gj (lvl d) m.next).2)from aF (show m.is y9=true from BT)]
       exact⟨W,_,T,rfl,O,r.trans (F.trans (G.trans H)),A.over D⟩)
theorem or6(a b c d e f:Bool):(a=false/\b=false/\c=false/\d=false/\e=false/\f=false)\/a=true\/(a=false/\b=true)\/(a=false/\b=false/\c=true)\/(a=false/\b=false/\c=false/\d=true)\/(a=false/\b=false/\c=false/\d=false/\e=true)\/(a=false/\b=false/\c=false/\d=false/\e=false/\f=true):=by cases a<;>cases b<;>cases c<;>cases d<;>cases e<;>cases f<;>simp
theorem aff{sub:Option rN}{m:Mode}{o:ByteArray}(h:iW.find? (λo=>(gb sub m).2.is o)=σ o):(kP sub m).2=(gb sub (gb sub m).2.next).2:=by unfold kP;simp only;rw[h]
theorem afg{sub:Option rN}{m:Mode}(h:iW.find? (λo=>(gb sub m).2.is o)=ν):(kP sub m).2=if(gb sub m).2.is kIs then(if(gb sub m).2.next.is y9 then(gb sub m).2.next.next else(gb sub m).2.next).take vA else(gb sub m).2:=by unfold kP;simp only;rw[h];simp only;split<;>rfl
theorem SD(u:Nat)(hl:PF 161 gb u):PF 133 kP u:=by
 intro o w p c v m n h0 hd hf;go_in;go_wp2_with fail;refine(hl o w p c v m n h0 hd hf).mono ?_;rintro A w1 ⟨Z,O,k,rfl,h,R,C⟩;have⟨_,t,i,_,_,c3,c4,_,_⟩:=h.cells;have ac:∀o,iW.find? (λo=>(gb (lvl u) m).2.is o)=σ o->Hid ((kP (lvl u) m).2=_):=λo V=>au (aff V);have ab:iW.find? (λo=>(gb (lvl u) m).2.is o)=ν->Hid ((kP (lvl u) m).2=_):=λa=>au (afg a);generalize (gb (lvl u) m).2=d at *;have ad:=C.hi;have cG:=C.bud;have am:=wm d;rcases or6 (d.is (ByteArray.mk #[61])) (d.is (ByteArray.mk #[60,62])) (d.is (ByteArray.mk #[60])) (d.is (ByteArray.mk #[60,61])) (d.is (ByteArray.mk #[62])) (d.is (ByteArray.mk #[62,61]))with⟨e,j,r,y,E,M⟩|e|⟨e,j⟩|⟨e,j,r⟩|⟨e,j,r,y⟩|⟨e,j,r,y,E⟩|⟨e,j,r,y,E,M⟩
 .have F:=ab (by simp[iW,bs,e,j,r,y,E,M]);cases i6:d.is (ByteArray.mk #[105,115]);{go_wp2_with(go_at_call 35;refine(h.is _).mono ?_;rintro W w' ⟨rfl,rfl⟩);go_ret;refine⟨Z,O,k,rfl,?_⟩;rw[F.J,aE (by show¬d.is (ByteArray.mk #[105,115])=true;rw[i6];decide)];exact⟨h,R,C⟩}
  have⟨G,Q,e5⟩:=h.live i6;have HE:=au (F.J.trans (aF i6));rw[sG G]at cG;go_wp2_with(go_at_call 35;refine(h.is _).mono ?_;rintro W w' ⟨rfl,rfl⟩);refine(h.next Q).mono ?_;rintro A w2 ⟨rfl,D,T⟩;go_wp2_with fail;refine(D.is _).mono ?_;rintro W w' ⟨rfl,rfl⟩;cases i7:d.next.is (ByteArray.mk #[110,111,116]);(case' true=>have⟨q3,q4,q5⟩:=D.live i7;go_wp2_with fail;refine(D.next q4).mono ?_;rintro A w3 ⟨rfl,I,H⟩);(case' false=>have I:=D;have H:=Fq.refl p Z w2);all_goals
   have aa:=au (HE.J.trans (a7 (λm=>Mode.take vA m) (by first|exact aF i7|exact aE (by show¬d.next.is (ByteArray.mk #[110,111,116])=true;rw[i7];decide))));go_wp2_with fail;refine(I.take _).mono ?_;rintro A w4 ⟨_,rfl,K,U⟩;have⟨g,cap,hv,ap,WJ,zf,fi,cf⟩:=K.afe ad;have g1:(k:Int)<O:=(by omega);go_wp2_with fail;refine(K.node ⟨_,i,fi,k,0,0,⟨#[]⟩⟩ (by omega)).mono ?_;rintro A w5 ⟨v5,rfl,h5,f5⟩;go_wp2;go_ret;refine⟨v5,_,O,rfl,by rw[aa.J];exact h5,R.trans (T.trans (H.trans (U.trans f5))),?_⟩;rw[aa.J];have hx:=dD (m:=d.next);have lW:=C.gr;refine⟨by omega,by omega,?_⟩;first
    | (have ht:=take_len d.next vA;omega)
    | (have ht:=take_len d.next.next vA;omega)
 all_goals obtain⟨Y,it,V⟩:∃Y,d.is Y=true/\iW.find? (λo=>d.is o)=σ Y:=(by first|exact⟨_,M,by simp[iW,bs,e,j,r,y,E,M]⟩|exact⟨_,E,by simp[iW,bs,e,j,r,y,E]⟩|exact⟨_,y,by simp[iW,bs,e,j,r,y]⟩|exact⟨_,r,by simp[iW,bs,e,j,r]⟩|exact⟨_,j,by simp[iW,bs,e,j]⟩|exact⟨_,e,by simp[iW,bs,e]⟩);have F:=ac _ V;have⟨G,Q,e5⟩:=h.live it;have ny:=C.bud;rw[sG G]at ny;go_wp2_with(go_at_call 35;refine(h.is _).mono ?_;rintro W w' ⟨rfl,rfl⟩);refine(h.next Q).mono ?_;rintro A w2 ⟨rfl,D,T⟩;go_wp2_with fail;refine(hl o w2 p c Z d.next O D hd (by omega)).mono ?_;rintro A w3 ⟨v3,n3,al,rfl,I,H,P⟩;have iw:=P.bud;have cQ:=P.gr;have an:=wm (gb (lvl u) d.next).2;go_wp2_with fail;refine(I.two _ _ k al (by omega) (by omega)).mono ?_;rintro A w4 ⟨v4,rfl,K,U⟩;go_wp2;go_ret;refine⟨v4,n3+1,n3,rfl,?_⟩;rw[F.J];exact⟨K,R.trans (T.trans (H.trans U)),C.two G e5 P⟩
section
variable {o:ω×υ} {w w':ω} {p:Nat} {c:gO} {v:υ} {m:Mode} {n:Nat}
theorem C8(m:Mode)(d:Nat):(m.wrong d).next=m.wrong d:=by cases m<;>rfl
theorem Fz{m:Mode}(h:¬m.alive):∀t d,m=.live t d->t.k.ends=false:=λt d e=>by subst e;exact absurd trivial h
theorem Rd.tok(h:Rd o w p c v m n):∃(k:Nat) (t:ByteArray) (i:Nat) (d:Int),w.cell? ⟨p,2,ν⟩=σ (ι .u8 k)/\w.cell? ⟨p,3,ν⟩=σ (θ t)/\w.cell? ⟨p,4,ν⟩=σ (ι κ i)/\w.cell? ⟨p,5,ν⟩=σ (ι κ d)/\Hid (m.alive->i=m.place)/\cR d/\Hid (m.alive->nO k t d m.tk)/\Hid (∀s,m.is s=true->t=s):=by obtain⟨x,ns,q,_⟩:=h.ex;refine⟨_,_,_,_,q.pen.cell 2,q.pen.cell 3,q.pen.cell 4,q.pen.cell 5,au λe=>?_,q.tn,au λe=>?_,au λs j=>(WL q.mode j).1⟩;all_goals have:=q.mode;cases m with|dead _ _=>exact e.elim|live t r=>first|exact this.2.2.1|exact this.2.1
theorem ar3{k:Nat}{t:ByteArray}(C:m.is oG=false)(h:m.alive->nO k t I m.tk):(((k:Int)=110\/(k:Int)=115)/\(jR m).2=m.next/\∀t A,m=.live t A->t.k.ends=false)\/
 (((k:Int)==110)=false/\((k:Int)==115)=false/\(jR m).2=if m.is BN then m.next else if m.is vZ then m.next else if m.is vA then m.next else m.wrong 2):=by
 have e:jR m=_:=aE (by rw[C];decide);have D:∀j:Bs×Mode,(∀a b c r d:Bs,j=(if m.is BN then(a,m.next)else if m.is vZ then(b,m.next)else if m.is vA then(c,m.next)else(r,m.wrong 2))->j.2=if m.is BN then m.next else if m.is vZ then m.next else if m.is vA then m.next else m.wrong 2):=λj a b c r _ d=>by
  rw[d];split
  . rfl
  . split
    . rfl
    . split<;>rfl
 cases m with|dead d b=>(by_cases u:(k:Int)=110;{exact .inl ⟨.inl u,rfl,λ_ _ d=>by cases d⟩};by_cases y:(k:Int)=115;{exact .inl ⟨.inr y,rfl,λ_ _ d=>by cases d⟩};exact .inr ⟨by rw[aK];exact u,by rw[aK];exact y,rfl⟩)|live tk A=>have E:=h trivial;obtain⟨F,G⟩:=tk;cases F<;>simp only[nO,Mode.tk]at E;(case num=>exact .inl ⟨.inl (by omega),by rw[e];rfl,λ_ _ d=>by cases d;rfl⟩);(case str=>exact .inl ⟨.inr (by omega),by rw[e];rfl,λ_ _ d=>by cases d;rfl⟩);all_goals exact .inr ⟨by rw[aK];omega,by rw[aK];omega,D _ _ _ _ _ PI e⟩
theorem Pd{s:ByteArray}(h:m.is s=true):∀t d,m=.live t d->t.k.ends=false:=λt d e=>by subst e;exact Hh h
theorem ays{k:Nat}{t:ByteArray}(A:m.is oG=false)(h:m.alive->nO k t I m.tk)(u:∀s,m.is s=true->t=s):((jR m).2=m.next/\(∀t C,m=.live t C->t.k.ends=false)/\
 (((k:Int)==110)=true\/(((k:Int)==110)=false/\((k:Int)==115)=true)\/(((k:Int)==110)=false/\((k:Int)==115)=false/\m.is (ByteArray.mk #[116,114,117,101])=true/\(t.toList==[116,114,117,101])=true)\/
 (((k:Int)==110)=false/\((k:Int)==115)=false/\m.is (ByteArray.mk #[116,114,117,101])=false/\m.is (ByteArray.mk #[102,97,108,115,101])=true/\(t.toList==[116,114,117,101])=false)\/
 (((k:Int)==110)=false/\((k:Int)==115)=false/\m.is (ByteArray.mk #[116,114,117,101])=false/\m.is (ByteArray.mk #[102,97,108,115,101])=false/\m.is (ByteArray.mk #[110,117,108,108])=true)))\/
 ((jR m).2=m.wrong 2/\((k:Int)==110)=false/\((k:Int)==115)=false/\m.is (ByteArray.mk #[116,114,117,101])=false/\m.is (ByteArray.mk #[102,97,108,115,101])=false/\m.is (ByteArray.mk #[110,117,108,108])=false):=by rcases ar3 A h with⟨e,d,y⟩|⟨j,r,d⟩;{refine .inl ⟨d,y,?_⟩;rcases e with e|e;{exact .inl (by rw[dO];exact e)};exact .inr (.inl ⟨by rw[aK];omega,by rw[dO];exact e⟩)};cases iT:m.is BN;{rw[aE (by rw[iT];decide)]at d;cases iF:m.is vZ;{rw[aE (by rw[iF];decide)]at d;cases iN:m.is vA;{rw[aE (by rw[iN];decide)]at d;exact .inr ⟨d,j,r,iT,iF,iN⟩};rw[aF iN]at d;exact .inl ⟨d,Pd iN,.inr (.inr (.inr (.inr ⟨j,r,iT,iF,iN⟩)))⟩};rw[aF iF]at d;exact .inl ⟨d,Pd iF,.inr (.inr (.inr (.inl ⟨j,r,iT,iF,by rw[u _ iF,eD];rfl⟩)))⟩};rw[aF iT]at d;exact .inl ⟨d,Pd iT,.inr (.inr (.inl ⟨j,r,iT,by rw[u _ iT,eD];rfl⟩))⟩
theorem ayt{m:Mode}{k:Nat}{t:ByteArray}(u:m.is oG=true)(h:nO k t I m.next.tk):(((k:Int)==110)=true/\(jR m).2=m.next.next/\∀t e,m.next=.live t e->t.k.ends=false)\/(((k:Int)==110)=false/\(jR m).2=m.next.wrong 2):=by
 have d:jR m=_:=aF u;cases hk:m.next.tk<;>(rw[hk]at h d;simp only[nO]at h);case num=>exact .inl ⟨by rw[dO];omega,by rw[d],λt e r=>by rw[r]at hk;have j:t.k=_:=hk;rw[j];rfl⟩
 all_goals exact .inr ⟨by rw[aK];omega,by rw[d]⟩
theorem V3{m:Mode}(h:m.alive):m.next.alive:=by cases m with|dead e b=>exact h|live t d=>cases d<;>exact h
theorem Rd.value(h:Rd o w p c v m n):Calls prog 51 #[π (σ ⟨p,0,ν⟩)] w λd w'=>
 ∃(a k:Int) (b:Bool) (O:Int) (s:ByteArray),d=τ (χ #[ι κ a,ι κ k,.bool b,ι κ O,θ s])/\Rd o w' p c v (jR m).2 n/\Fq p v v w w':=by
 obtain⟨k,t,i,O,c2,c3,c4,c5,hi,_,ht,hw⟩:=h.tok;have cQ:=h.lt;cases G:m.is (ByteArray.mk #[45]);case' false=>
  rcases ays G ht.J hw.J with⟨u,F,r|⟨r,D⟩|⟨r,D,H,tT⟩|⟨r,D,H,M,tT⟩|⟨r,D,H,M,iN⟩⟩|⟨u,r,D,H,M,iN⟩;all_goals
   go_in;go_wp2_with(go_at_call 35;refine((h.start.SC _ _ _ _ _ _).rd.is _).mono ?_;rintro r' w' ⟨rfl,rfl⟩);first
    | (refine((h.start.SC _ _ _ _ _ _).rd.next F).mono ?_
       rintro d I ⟨rfl,j,e⟩;have S:=(h.start.SC _ _ _ _ _ _).call j e)
    | (refine((h.start.SC _ _ _ _ _ _).rd.fail 2 i (by decide) hi).mono ?_
       rintro d w8 ⟨rfl,A,E⟩;go_wp2_with fail;refine(A.next (Fz (dz m 2))).mono ?_;rintro d I ⟨rfl,j,e⟩;rw[<- C8 m 2]at u;have S:=((h.start.SC _ _ _ _ _ _).call A E).call j e)
 case' true=>
  obtain⟨Y,Z,e5⟩:=h.live G;go_in;go_wp2_with(go_at_call 35;refine((h.start.SC _ _ _ _ _ _).rd.is _).mono ?_;rintro r' w' ⟨rfl,rfl⟩);refine((h.start.SC _ _ _ _ _ _).rd.next Z).mono ?_;rintro d w1 ⟨rfl,K,f1⟩;have y:=(h.start.SC _ _ _ _ _ _).call K f1;obtain⟨k',t',i',j',b2,_,b4,b5,Q,hj,aa,_⟩:=K.tok;obtain⟨g0,g1,g2,g3,g4⟩:=vU y.box;have ac:=bZ y.box 3;have fy:=y.rd.lt;obtain⟨⟨_,oA⟩,P⟩:=y.ok _ (dw ..);have hq:=(P _ rfl).1;have C:=au λab=>y.put 3 ab;rcases ayt G (aa.J (V3 Y))with⟨r,u,F⟩|⟨r,u⟩;all_goals
   go_wp2_with fail;first
    | (refine((C.J _).rd.next F).mono ?_
       rintro d I ⟨rfl,j,e⟩;have S:=(C.J _).call j e)
    | (refine((C.J _).rd.fail 2 i' (by decide) Q).mono ?_
       rintro d w8 ⟨rfl,A,E⟩;go_wp2_with fail;refine(A.next (Fz (dz m.next 2))).mono ?_;rintro d I ⟨rfl,j,e⟩;rw[<- C8 m.next 2]at u;have S:=((C.J _).call A E).call j e)
 all_goals obtain⟨g0,g1,g2,g3,g4⟩:=vU S.box;obtain⟨R,T,U,V,W⟩:=vU S.drop.drop.box;have zz:=bZ S.drop.drop.box;go_wp2_with fail;refine aD (by simp[results,results51,go_sem,R,T,U,V,W];rfl) rfl ?_;rw[u];exact⟨_,_,_,_,_,rfl,(((((S.mr.mr.put 0 _).put 1 _).put 2 _).put 3 _).put 4 _).fin h⟩
end
section
variable {o:ω×υ} {w w':ω} {p:Nat} {c:gO} {v:υ} {m:Mode} {n:Nat} {L:List Item}
theorem Rd.err(h:Rd o w p c v m n):∃d:Nat,w.cell? ⟨p,6,ν⟩=σ (ι κ d)/\((m.alive/\((d:Int)==0)=true)\/(¬m.alive/\((d:Int)==0)=false)):=by obtain⟨x,ns,q,_⟩:=h.ex;refine⟨x.e,q.pen.cell 6,?_⟩;have:=q.mode;cases m with|dead _ _=>(exact .inr ⟨λh=>h,by obtain⟨e,_,j⟩:=this;rw[aK];omega⟩)|live t r=>exact .inl ⟨trivial,by have e:=this.1;rw[dO];omega⟩
theorem Rd.ayv(h:Rd o w p c v m n)(u:m.alive)(y:∀t d,m=.live t d->t.k.ends=false):m.next.len+1=m.len:=by obtain⟨x,ns,q,_⟩:=h.ex;cases m with|dead _ _=>exact u.elim|live t d=>obtain⟨_,_,_,r,_⟩:=q.mode;have j:=r (y t d rfl);have e:=AU x.S x.pos;rw[<- j]at e;cases d with|nil=>exact absurd rfl e|cons A C=>rfl
theorem ar4{sub:Option rN}{k:Nat}{t:ByteArray}(u:m.alive)(y:¬m.is cq=true)(h:nO k t I m.tk) :
 ((ja sub m).2=m.next/\(∀t r,m=.live t r->t.k.ends=false)/\(((k:Int)==110)=true\/(((k:Int)==110)=false/\((k:Int)==115)=true)\/(((k:Int)==110)=false/\((k:Int)==115)=false/\((k:Int)==97)=true)\/
   (((k:Int)==110)=false/\((k:Int)==115)=false/\((k:Int)==97)=false/\((k:Int)==119)=true/\(t.toList==[116,114,117,101])=true)\/
   (((k:Int)==110)=false/\((k:Int)==115)=false/\((k:Int)==97)=false/\((k:Int)==119)=true/\(t.toList==[116,114,117,101])=false/\(t.toList==[102,97,108,115,101])=true)))\/
 ((ja sub m).2=m.wrong 2/\((((k:Int)==110)=false/\((k:Int)==115)=false/\((k:Int)==97)=false/\((k:Int)==119)=false)\/
   (((k:Int)==110)=false/\((k:Int)==115)=false/\((k:Int)==97)=false/\((k:Int)==119)=true/\(t.toList==[116,114,117,101])=false/\(t.toList==[102,97,108,115,101])=false))):=by
 have e:ja sub m=_:=aE y;have f:∀a:Int,(k:Int)≠a->((k:Int)==a)=false:=λa h=>by rw[aK];exact h
 cases m with|dead _ _=>exact u.elim|live tk r=>obtain⟨C,D⟩:=tk;cases C<;>simp only[nO,Mode.tk]at h;(case num=>exact .inl ⟨by rw[e];rfl,λ_ _ d=>by cases d;rfl,.inl (by rw[dO];omega)⟩);(case str=>exact .inl ⟨by rw[e];rfl,λ_ _ d=>by cases d;rfl,.inr (.inl ⟨f _ (by omega),by rw[dO];omega⟩)⟩);(case name=>exact .inl ⟨by rw[e];rfl,λ_ _ d=>by cases d;rfl,.inr (.inr (.inl ⟨f _ (by omega),f _ (by omega),by rw[dO];omega⟩))⟩);(case word s=>have j:((k:Int)==119)=true:=(by rw[dO];omega);have A:=h.2.1;subst A;cases hT:jN t BN;{cases hF:jN t vZ;{exact .inr ⟨by rw[e];simp only[Mode.tk,hT,hF];rfl,.inr ⟨f _ (by omega),f _ (by omega),f _ (by omega),j,by rw[eD];exact hT,by rw[eD];exact hF⟩⟩};exact .inl ⟨by rw[e];simp only[Mode.tk,hT,hF];rfl,λ_ _ d=>by cases d;rfl,.inr (.inr (.inr (.inr ⟨f _ (by omega),f _ (by omega),f _ (by omega),j,by rw[eD];exact hT,by rw[eD];exact hF⟩)))⟩};exact .inl ⟨by rw[e];simp only[Mode.tk,hT];rfl,λ_ _ d=>by cases d;rfl,.inr (.inr (.inr (.inl ⟨f _ (by omega),f _ (by omega),f _ (by omega),j,by rw[eD];exact hT⟩)))⟩);all_goals exact .inr ⟨by rw[e];rfl,.inl ⟨f _ (by omega),f _ (by omega),f _ (by omega),f _ (by omega)⟩⟩
theorem gU{a b c f g:υ}{t:TypeId}(h:w.heap[r]?=σ (ξ #[a,b,c,y,e,f,g] t (0,0))) :
 w.cell? ⟨r,0,ν⟩=σ a/\w.cell? ⟨r,1,ν⟩=σ b/\w.cell? ⟨r,2,ν⟩=σ c/\w.cell? ⟨r,3,ν⟩=σ y/\w.cell? ⟨r,4,ν⟩=σ e/\w.cell? ⟨r,5,ν⟩=σ f/\w.cell? ⟨r,6,ν⟩=σ g:=by simp[World.cell?,h]
theorem Na(G:Nat)(h:Rd o w p c v m n)(hf:n+m.len<=600)(U:m.is (ByteArray.mk #[40])=false):Calls prog 239 #[π (σ ⟨p,0,ν⟩)] w λj w'=>∃(v':υ) (n' k:Nat),j=τ (ι κ k)/\Rd o w' p c v' (ja (lvl G) m).2 n'/\Fq p v v' w w'/\Bd m (ja (lvl G) m).2 n n' k:=by
 obtain⟨k,t,i,Q,c2,c3,c4,c5,hi,_,M,_⟩:=h.tok;obtain⟨aa,c6,he⟩:=h.err;have cQ:=h.lt;rcases he with⟨d,e0⟩|⟨d,e0⟩
 .rcases ar4 (sub:=lvl G) d (by show¬m.is (ByteArray.mk #[40])=true;rw[U];decide) (M.J d)with⟨D,P,K⟩|⟨D,K⟩
  .rw[D];have hl:=h.ayv d P;clear D M d;rcases K with e|⟨e,E⟩|⟨e,E,H⟩|⟨e,E,H,O,R⟩|⟨e,E,H,O,R,k6⟩
   all_goals go_in;go_wp2_with(go_at_call 35;refine((h.start.wF _ _ _ _).rd.is _).mono ?_;rintro r' w' ⟨rfl,rfl⟩);refine((h.start.wF _ _ _ _).rd.next P).mono ?_;rintro j w1 ⟨rfl,y,I⟩;have S:=(h.start.wF _ _ _ _).call y I;obtain⟨V,W,Y,Z,d4,d5,d6⟩:=gU S.box;go_wp2_with fail;refine(y.node ⟨_,i,i,0,0,_,t⟩ (by omega)).mono ?_;rintro j T ⟨F,rfl,A,r⟩;go_wp2_with fail;go_ret;obtain⟨C,u⟩:=(S.call A r).fin h;exact⟨F,_,n,rfl,C,u,by omega,by omega,by omega⟩
  rw[D];clear D M d;rcases K with⟨e,E,H,O⟩|⟨e,E,H,O,R,k6⟩
  all_goals go_in;go_wp2_with(go_at_call 35;refine((h.start.wF _ _ _ _).rd.is _).mono ?_;rintro r' w' ⟨rfl,rfl⟩);refine((h.start.wF _ _ _ _).rd.fail 2 i (by decide) hi).mono ?_;rintro j w1 ⟨rfl,y,I⟩;have S:=(h.start.wF _ _ _ _).call y I;obtain⟨V,W,Y,Z,d4,d5,d6⟩:=gU S.box;go_wp2_with fail;refine(y.node ⟨_,i,i,0,0,Q,t⟩ (by omega)).mono ?_;rintro j T ⟨F,rfl,A,r⟩;go_wp2_with fail;go_ret;obtain⟨C,u⟩:=(S.call A r).fin h;exact⟨F,_,n,rfl,C,u,Bd.dead (dz m 2)⟩
 have hs:(ja (lvl G) m).2=m:=(by cases m with|live t ts=>exact absurd trivial d|dead aa b=>rfl);rw[hs];go_in;go_wp2_with fail;refine((h.start.wF _ _ _ _).rd.node ⟨⟨#[]⟩,i,i,0,0,Q,t⟩ (by omega)).mono ?_;rintro j T ⟨F,rfl,A,r⟩;go_wp2_with fail;go_ret;obtain⟨C,u⟩:=((h.start.wF _ _ _ _).call A r).fin h;exact⟨F,_,n,rfl,C,u,Bd.dead d⟩
end
theorem Tryz.Ep:(prog.info? 34).map (λi=>(i.zero,i.size,i.bytes))=σ (σ (χ #[θ ByteArray.empty,ι κ 0]),2,24):=by kernel_rfl
section
variable {o:ω×υ} {w w':ω} {p:Nat} {c:gO} {v:υ} {m:Mode} {n:Nat}
theorem Rd.kind(h:Rd o w p c v m n):Calls prog 50 #[π (σ ⟨p,0,ν⟩)] w λe w'=>
 ∃k:Nat,e=τ (ι κ k)/\Rd o w' p c v (rF m).2 n/\Fq p v v w w':=by
 cases i0:m.is (ByteArray.mk #[105,110,116])
 .have j:¬m.is akU=true:=λh=>by have d:m.is (ByteArray.mk #[105,110,116])=true:=h;rw[i0]at d;cases d
  cases i1:m.is (ByteArray.mk #[115,116,114])
  .have u:¬m.is akV=true:=λh=>by have d:m.is (ByteArray.mk #[115,116,114])=true:=h;rw[i1]at d;cases d
   rw[show rF m=(2,m.take WA)from(aE j).trans (aE u)];go_in;go_wp2_with(go_at_call 35;refine(h.is _).mono ?_;rintro r w' ⟨rfl,rfl⟩);refine(h.take _).mono ?_;rintro e w1 ⟨_,rfl,q⟩;go_wp2_with fail;go_ret;exact⟨2,rfl,q⟩
  rw[show rF m=(1,m.next)from(aE j).trans (aF i1)];go_in;go_wp2_with(go_at_call 35;refine(h.is _).mono ?_;rintro r w' ⟨rfl,rfl⟩);refine(h.next (h.live i1).2.1).mono ?_;rintro e w1 ⟨rfl,q⟩;go_wp2_with fail;go_ret;exact⟨1,rfl,q⟩
 rw[show rF m=(0,m.next)from aF i0];go_in;go_wp2_with(go_at_call 35;refine(h.is _).mono ?_;rintro r w' ⟨rfl,rfl⟩);refine(h.next (h.live i0).2.1).mono ?_;rintro e w1 ⟨rfl,q⟩;go_wp2_with fail;go_ret;exact⟨0,rfl,q⟩
theorem Rd.names(h:Rd o w p c v m n)(hm:m.len<=600):Calls prog 52 #[π (σ ⟨p,0,ν⟩)] w λr w'=>
 ∃(a:Option Addr) (q k:Nat),r=τ (ψ a q k)/\Rd o w' p c v (jQ m).2 n/\Fq p v v w w':=by
 obtain⟨i0,hi,lU,lV,lk⟩:=info_parts Tryz.Ep;go_in;go_wp2_with fail;refine(h.start.rd.name).mono ?_;rintro r w1 ⟨P,O,rfl,Z,Y⟩;have T:=((h.start.call Z Y).wF #[θ P,ι κ O] 34 #[θ P,ι κ O] 34).one (z:=2) rfl;have FJ:=dW m;go_wp2_with fail;go_loopw[4] (λs wr=>∃(m':Mode) (l:List Nm) (f q:Nat) (a b:υ),St (w,v) wr p c v m' n [.row s 34 2 q,.box w1.heap.size #[a,b] 34]/\m'.len<=f/\q+m'.len<=m.len+1/\Hid (jb Mode.name f l m'=jQ m)) (λs _=>2000 - lenOf s);case atStart=>exact⟨_,_,_,_,_,_,T,ae _,by omega,au rfl⟩
 case round=>obtain⟨m',l,f,q,a,b,S,ab,xK,y⟩:=hrel;obtain⟨va,vc,rfl⟩:=S.slice;cases ic:m'.is (ByteArray.mk #[44]);{have Q:=au ((rS (show m'.is lT=false from ic)).symm.trans y.J);go_wp2_with(go_at_call 35;refine(S.rd.is _).mono ?_;rintro r' w' ⟨rfl,rfl⟩);go_ret;refine⟨_,_,_,rfl,?_⟩;rw[<- Q.J];exact S.fin h};obtain⟨e3,W,e5⟩:=S.rd.live ic;obtain⟨f,rfl⟩:∃g,f=g+1:=⟨f - 1,by omega⟩;have xE:=au (rR y.J (show m'.is lT=true from ic));go_wp2_with(go_at_call 35;refine(S.rd.is _).mono ?_;rintro r' w' ⟨rfl,rfl⟩);refine(S.rd.next W).mono ?_;rintro r w2 ⟨rfl,K,H⟩;have U:=S.call K H;go_wp2_with fail;refine(K.name).mono ?_;rintro r u ⟨e,d,rfl,h3,I⟩;have A:=U.call h3 I;have j:=A.drop.box;obtain⟨t0,t1⟩:=kT j;have z0:=bZ j 0;have z1:=bZ j 1;have aa:=dW m'.next;have C:=((A.mr.put 0 (θ e)).put 1 (ι κ d)).alloc (Yr e d);obtain⟨xs,own⟩:=C.mr.row;have R:=own;have D:=au (World.news_of_block (ak ((u.setCell ⟨w1.heap.size,0,ν⟩ (θ e)).setCell ⟨w1.heap.size,1,ν⟩ (ι κ d)) (Yr e d)));have oy:((u.setCell ⟨w1.heap.size,0,ν⟩ (θ e)).setCell ⟨w1.heap.size,1,ν⟩ (ι κ d)).heap.size=u.heap.size:=(by simp[World.setCell]);rw[oy]at D;have oz:=S.rd.fr.keeps.size;have np:=H.keeps.size;have AX:=I.keeps.size;clear own j;go_wp2_with(at_builtin;refine cP _ rfl (.tmp 15) (.tmp 17) 35 rfl w.heap.size 34 i0 _ 2 24 underlying35 hi lU lV lk rfl (by decide) _ _ _ rfl R ⟨u.heap.size,0,ν⟩ 1 1 [θ e,ι κ d] rfl rfl D.J ?c2 (by decide) ?c3 ?c4 ?c5 ?_);(case c2=>intro ac M;simp at M;rcases M with rfl|rfl<;>rfl);(case c3=>unfold maxLen;omega);(case c4=>omega);(case c5=>simp[World.setCell]at oz ⊢;omega);intro g cap w5 E F G;have V:=C.mr.app E F (by simpa[World.setCell]using G);clear E F G;go_wp2_with fail;go_roundw;(case rel=>exact⟨_,_,f,_,_,_,V,by omega,by omega,xE⟩);case measure=>simp[lenOf];omega
end
theorem V5(ns:List lh)(k f:Nat)(y:k<ns.length):∃u:List lh,u.length=ns.length/\px u=(px ns).set (k*7+2) (ι κ f):=by
 refine⟨ns.modify k (λv=>{ v with first:=f }),by simp,?_⟩;refine cJ λq=>?_;rw[bI];obtain⟨d,i,e,rfl⟩:∃d i,i<7/\q=d*7+i:=⟨q / 7,q % 7,Nat.mod_lt _ (by decide),by omega⟩;rw[Cn _ d i e,Cn _ d i e,TR,List.getElem?_modify];by_cases r:k=d
 .subst r;rw[af y];by_cases j:i=2;{subst j;rw[aF rfl,aF (by omega)];simp[vE]}
  rw[aE (by omega)]
  simp only[if_true,Option.map_eq_map,Option.map_some,Option.bind_some]
  match i,e,j with
  |0,_,_=>rfl
  |1,_,_=>rfl
  |3,_,_=>rfl
  |4,_,_=>rfl
  |5,_,_=>rfl
  |6,_,_=>rfl
 rw[aE (by omega)];simp[r]
section
variable {o:ω×υ} {w w':ω} {p:Nat} {c:gO} {v:υ} {m:Mode} {n:Nat} {L:List Item}
theorem Rd.first{g cap k:Nat}(h:Rd o w p c (ψ (σ (Ad g 0)) n cap) m n)(j:k<n)(f:Nat):Rd o (w.setCell (Ad g (k*7+2)) (ι κ f)) p c (ψ (σ (Ad g 0)) n cap) m n/\Fq p (ψ (σ (Ad g 0)) n cap) (ψ (σ (Ad g 0)) n cap) w (w.setCell (Ad g (k*7+2)) (ι κ f)):=by obtain⟨x,ns,q,r,d,rfl⟩:=h.ex;obtain⟨G,y,F⟩:=V5 ns k f j;rw[<- d]at q ⊢;have E:¬Oth p x.nodes w g:=q.kv g (by rw[d];rfl);have A:g≠p:=λC=>q.apart (by rw[d,C];rfl);have e:aY (Oth p x.nodes w) w (w.setCell (Ad g (k*7+2)) (ι κ f)):=(aY.refl _ w).setCell (p:=(Ad g (k*7+2))) E _;have u:=q.own;rw[d]at u;obtain⟨H,_⟩:=u.stored (k*7+2) (ι κ f);have D:Rd o w p c x.nodes m ns.length:=d ▸ h;have I:iX (Oth p x.nodes w) (w.setCell (Ad g (k*7+2)) (ι κ f)) p x m G:=⟨q.pen.kG (az _ _ _ _ (Ne.symm A)),λi s r=>(e.cell (p:=(Ad 0 i)) q.k0).trans (q.laid i s r),q.p0,q.Cp,q.pos,q.tk,q.tn,q.tp,q.mode,by rw[y,F,d];exact H,q.apart,q.k0,q.kp,q.kv,λk j=>ai (q.old k j) e.size⟩;have:=D.Ip r I e;rwa[y]at this
theorem aaP{m:Mode}{s:ByteArray}(h:¬m.alive):m.take s=m:=by cases m with|live t e=>exact absurd trivial h|dead d b=>rfl
theorem Bd.akz{m d:Mode}{n k:Nat}(s:ByteArray)(b:Bd m.next d n r k)(y:m.next.len+1=m.len):Bd m (d.take s) n r k:=by have j:=b.bud;refine⟨b.hi,b.gr,?_⟩;by_cases e:d.alive;{have u:=take_len d s;rw[sG e]at j;omega};rw[aaP e];omega
theorem SF{a b c:υ}{t:TypeId}(h:w.heap[r]?=σ (ξ #[a,b,c,y] t (0,0))):w.cell? (Ad r 0)=σ a/\w.cell? (Ad r 1)=σ b/\w.cell? (Ad r 2)=σ c/\w.cell? (Ad r 3)=σ y:=by simp[World.cell?,h]
theorem aaQ:PF 239 ja 0:=by intro o w p c v m n h W hf;cases BT:m.is (ByteArray.mk #[40]);{exact Na 0 h hf BT};obtain⟨k,t,i,E,c2,c3,c4,H,Y,_,_,_⟩:=h.tok;obtain⟨j,I,D⟩:=h.err;have V:((j:Int)==0)=true:=(by rcases D with d|d;{exact d.2};exact absurd (h.live BT).1 d.1);have K:=h.lt;rw[show ja (lvl 0) m=(.junk,m.wrong 3)from aF BT];go_in;go_wp2_with(go_at_call 35;refine((h.start.wF _ _ _ _).rd.is _).mono ?_;rintro Z w' ⟨rfl,rfl⟩);refine((h.start.wF _ _ _ _).rd.PW (by omega)).mono ?_;rintro F w1 ⟨rfl,e,r⟩;have S:=(h.start.wF _ _ _ _).call e r;obtain⟨M,O,P,Q,R,T,U⟩:=gU S.box;go_wp2_with fail;refine(e.node ⟨⟨#[]⟩,i,i,0,0,E,t⟩ (by omega)).mono ?_;rintro F w2 ⟨G,rfl,A,u⟩;go_wp2_with fail;go_ret;obtain⟨C,y⟩:=(S.call A u).fin h;exact⟨G,_,n,rfl,C,y,Bd.dead (dz m 3)⟩
theorem aaR(d:Nat)(hx:PF 53 fE d):PF 239 ja (d+1):=by
 intro o w p c v m n h hd hf;cases BT:m.is (ByteArray.mk #[40]);{exact Na (d+1) h hf BT}
 obtain⟨k,t,i,ac,c2,c3,c4,T,_,_,_,_⟩:=h.tok;obtain⟨u,U,he⟩:=h.err;obtain⟨V,W,H⟩:=h.live BT;have e0:((u:Int)==0)=true:=(by rcases he with A|A;{exact A.2};exact absurd V A.1);have cQ:=h.lt;have hs:ja (lvl (d+1)) m=((fE (lvl d) m.next).1,(fE (lvl d) m.next).2.take cY):=aF BT;rw[hs];go_in;go_wp2_with(go_at_call 35;refine((h.start.wF _ _ _ _).rd.is _).mono ?_;rintro r' w' ⟨rfl,rfl⟩);refine((h.start.wF _ _ _ _).rd.down W (by omega)).mono ?_;rintro O w1 ⟨rfl,I,Y⟩;have P:=(h.start.wF _ _ _ _).call I Y;clear c2 c3 c4 T U;go_wp2_with fail;refine(hx _ w1 p _ v m.next n I (by show c.deep+1+d=8;omega) (by omega)).mono ?_;rintro O w3 ⟨v3,G,F,rfl,K,Z,e⟩;go_wp2_with fail;refine(K.take _).mono ?_;rintro O w4 ⟨_,rfl,C,f4⟩;have r:=(P.call K Z).call C f4;obtain⟨_,_,t2,_⟩:=SF r.drop.box;obtain⟨c8,z8,M,f5⟩:=C.up;obtain⟨g,cap,rfl,aa,WJ,zf,fi,cf⟩:=C.afe e.hi;have g1:(F:Int)<G:=by have:=e.hi;omega
 have E:=(r.ok _ (.tail _ (.head _))).2 _ rfl;have ab:=E.1;have lW:g≠w.heap.size:=λu=>E.2 (a7 σ u);obtain⟨h6,f6⟩:=M.first e.hi i;have Q:=(r.call M f5).call h6 f6;have R:=au Q;clear E;go_wp2_with fail;go_region;all_goals
  go_wp2_with fail;go_ret;have j:=R.J;first
   | (obtain⟨D,y⟩:=j.fin h;exact⟨_,G,F,rfl,D,y,e.akz _ H⟩)
   | (obtain⟨D,y⟩:=(j.call j.rd.drew.1 j.rd.drew.2).fin h;exact⟨_,G,F,rfl,D,y,e.akz _ H⟩)
theorem aaS(d:Nat):PF 215 gL d/\PF 100 gj d/\PF 53 fE d:=by induction d with|zero=>have j:=(Ib 0).1 aaQ;have e:=(Ib 0).2.2.1 (SD 0 (M9 0 (M8 0 j)));exact⟨j,e,SB 0 (Sy 0 e)⟩|succ d r=>have j:=(Ib d).2.1 (aaR d r.2.2) r.1;have e:=(Ib d).2.2.2 (SD (d+1) (M9 (d+1) (M8 (d+1) j))) r.2.1;exact⟨j,e,SB (d+1) (Sy (d+1) e)⟩
theorem Pe:PF 53 fE 8:=(aaS 8).2.2
end
theorem Tryz.Ye:(prog.info? 3).map (λi=>(i.zero,i.size,i.bytes))=σ (σ (ι κ 0),1,8):=by kernel_rfl
section
variable {o:ω×υ} {w w':ω} {p:Nat} {c:gO} {v:υ} {m:Mode} {n:Nat} {L:List Item}
theorem St.drew(S:St o w p c v m n L):St o w.drew p c v m n L:=S.call S.rd.drew.1 S.rd.drew.2
theorem Rd.nw(h:Rd o w p c v m n):w.cell? (Ad p 14)=σ c.names/\w.cell? (Ad p 15)=σ c.kinds/\w.cell? (Ad p 16)=σ c.rows/\w.cell? (Ad p 18)=σ c.fD/\∀i,w.frozen? (Ad p i)=false:=by have⟨x,ns,q,d,_⟩:=h.ex;exact⟨(q.pen.cell 14).trans (a7 σ d.names),(q.pen.cell 15).trans (a7 σ d.kinds),(q.pen.cell 16).trans (a7 σ d.rows),(q.pen.cell 18).trans (a7 σ d.fD),q.pen.fz⟩
theorem Rd.wH(h:Rd o w p c v m n):∃d e j r u y,w.cell? (Ad p 10)=σ d/\w.cell? (Ad p 11)=σ e/\w.cell? (Ad p 12)=σ j/\w.cell? (Ad p 13)=σ r/\w.cell? (Ad p 17)=σ u/\w.cell? (Ad p 9)=σ y:=by have⟨x,ns,q,A,_⟩:=h.ex;exact⟨_,_,_,_,_,_,q.pen.cell 10,q.pen.cell 11,q.pen.cell 12,q.pen.cell 13,q.pen.cell 17,q.pen.cell 9⟩
theorem St.ar5(S:St o w p c v m n L)(e:υ):St o (w.setCell (Ad p 9) e) p { c with word:=e } v m n L:=
 have k:=S.rd.fld (c':={ c with word:=e }) 9 e (λx d=>⟨{ x with word:=e },by simp[jy],⟨d.deep,rfl,d.names,d.kinds,d.rows,d.fD,d.form⟩,rfl⟩)
 S.call k.1 k.2
theorem St.SG(S:St o w p c v m n L)(s:ByteArray)(i:Int):St o ((w.setCell (Ad p 10) (θ s)).setCell (Ad p 11) (ι κ i)) p c v m n L:=
 have k:=S.rd.fld (c':=c) 10 (θ s) (λx d=>⟨{ x with KU:=θ s },by simp[jy],⟨d.deep,d.word,d.names,d.kinds,d.rows,d.fD,⟨s,rfl⟩,d.form.2⟩,rfl⟩);have e:=k.1.fld (c':=c) 11 (ι κ i) (λx d=>⟨{ x with KV:=ι κ i },by simp[jy],⟨d.deep,d.word,d.names,d.kinds,d.rows,d.fD,d.form.1,⟨i,rfl⟩,d.form.2.2⟩,rfl⟩)
 (S.call k.1 k.2).call e.1 e.2
theorem St.akA(S:St o w p c v m n L)(s:ByteArray)(i:Int):St o ((w.setCell (Ad p 12) (θ s)).setCell (Ad p 13) (ι κ i)) p c v m n L:=
 have k:=S.rd.fld (c':=c) 12 (θ s) (λx d=>⟨{ x with KW:=θ s },by simp[jy],⟨d.deep,d.word,d.names,d.kinds,d.rows,d.fD,d.form.1,d.form.2.1,⟨s,rfl⟩,d.form.2.2.2⟩,rfl⟩);have e:=k.1.fld (c':=c) 13 (ι κ i) (λx d=>⟨{ x with KX:=ι κ i },by simp[jy],⟨d.deep,d.word,d.names,d.kinds,d.rows,d.fD,d.form.1,d.form.2.1,d.form.2.2.1,⟨i,rfl⟩,d.form.2.2.2.2⟩,rfl⟩)
 (S.call k.1 k.2).call e.1 e.2
theorem St.akB(S:St o w p c v m n L)(e:υ):St o (w.setCell (Ad p 14) e) p { c with names:=e } v m n L:=
 have k:=S.rd.fld (c':={ c with names:=e }) 14 e (λx d=>⟨{ x with names:=e },by simp[jy],⟨d.deep,d.word,rfl,d.kinds,d.rows,d.fD,d.form⟩,rfl⟩)
 S.call k.1 k.2
theorem St.ar6(S:St o w p c v m n L)(e:υ):St o (w.setCell (Ad p 15) e) p { c with kinds:=e } v m n L:=
 have k:=S.rd.fld (c':={ c with kinds:=e }) 15 e (λx d=>⟨{ x with kinds:=e },by simp[jy],⟨d.deep,d.word,d.names,rfl,d.rows,d.fD,d.form⟩,rfl⟩)
 S.call k.1 k.2
theorem St.ar7(S:St o w p c v m n L)(e:υ):St o (w.setCell (Ad p 16) e) p { c with rows:=e } v m n L:=
 have k:=S.rd.fld (c':={ c with rows:=e }) 16 e (λx d=>⟨{ x with rows:=e },by simp[jy],⟨d.deep,d.word,d.names,d.kinds,rfl,d.fD,d.form⟩,rfl⟩)
 S.call k.1 k.2
theorem St.ar8(S:St o w p c v m n L)(i:Int):St o (w.setCell (Ad p 17) (ι κ i)) p c v m n L:=
 have k:=S.rd.fld (c':=c) 17 (ι κ i) (λx d=>⟨{ x with cond:=ι κ i },by simp[jy],⟨d.deep,d.word,d.names,d.kinds,d.rows,d.fD,d.form.1,d.form.2.1,d.form.2.2.1,d.form.2.2.2.1,i,rfl⟩,rfl⟩)
 S.call k.1 k.2
theorem St.akC(S:St o w p c v m n L)(e:υ):St o (w.setCell (Ad p 18) e) p { c with fD:=e } v m n L:=
 have k:=S.rd.fld (c':={ c with fD:=e }) 18 e (λx d=>⟨{ x with fD:=e },by simp[jy],⟨d.deep,d.word,d.names,d.kinds,d.rows,rfl,d.form⟩,rfl⟩)
 S.call k.1 k.2
theorem Rd.create(h:Rd o w p c v m n)(hm:m.len<=600)(Mf:c.names=ψ ν 0 0)(NC:c.kinds=ψ ν 0 0):Calls prog 36 #[π (σ (Ad p 0))] w λj w'=>
 j=τ (.tuple #[])/\∃(a a':Option Addr) (q q' k k':Nat),Rd o w' p { c with names:=ψ a q k,kinds:=ψ a' q' k' } v ((dk uy (m.name.2.take cq)).2.take cY) n/\Fq p v v w w':=by
 have⟨i0,hi,lU,lV,lk⟩:=info_parts Tryz.Ep;have⟨j0,hj,am,an,XG⟩:=info_parts Tryz.Ye;go_in;go_wp2_with fail;refine(h.start.rd.name).mono ?_;rintro j w1 ⟨s1,j1,rfl,E,f1⟩;have aC:=dW m;have⟨_,_,_,_,_,_,d0,d1,_⟩:=E.wH;have z0:=E.nw.2.2.2.2 10;have z1:=E.nw.2.2.2.2 11;have Z:=(h.start.call E f1).SG s1 j1;go_wp2_with fail;refine(Z.rd.take _).mono ?_;rintro j w4 ⟨_,rfl,h4,f4⟩;have a3:=take_len m.name.2 cq;have S4:St (w,v) w4 p { c with names:=ψ ν 0 0,kinds:=ψ ν 0 0 } v (m.name.2.take cq) n [.row (ψ ν 0 0) 34 2 0,.row (ψ ν 0 0) 3 1 0]:=(by have ac:{ c with names:=ψ ν 0 0,kinds:=ψ ν 0 0 }=c:=(by cases c;cases Mf;cases NC;rfl);rw[ac];exact((Z.call h4 f4).nil 3 1).nil 34 2);clear d0 d1 z0 z1;go_wp2;go_loopw[2] (λx wr=>∃(b:Bool) (m':Mode) (s R:υ) (q:Nat),x=.bool b/\St (w,v) wr p { c with names:=s,kinds:=R } v m' n [.row s 34 2 q,.row R 3 1 q]/\q+m'.len<=m.len+1/\Hid ((q=0/\b=true/\m'=m.name.2.take cq)\/(0<q/\b=m'.is lT/\∃f l,m'.len<=f/\jb uy f l m'=dk uy (m.name.2.take cq)))) (λ_ wr=>2000 - lenOf ((wr.cell? (Ad p 14)).getD undef));case atStart=>exact⟨true,_,_,_,0,rfl,S4,by show 0+(m.name.2.take cq).len<=_;omega,au (.inl ⟨rfl,rfl,rfl⟩)⟩
 case round=>
  obtain⟨b,m',s,R,q,rfl,S,xK,V⟩:=hrel;obtain⟨va,vc,rfl⟩:=S.slice;obtain⟨av,ax,rfl⟩:=S.drop.slice;have d:=S.rd.nw.1;have Bb:lenOf ((wr.cell? (Ad p 14)).getD undef)=q:=by rw[d];rfl
  cases b
  .have HF:=au (show jb uy 0 [] m'=([],m')/\(dk uy (m.name.2.take cq)).2=m' by
    refine⟨rfl,?_⟩;rcases V.J with⟨-,u,-⟩|⟨-,u,f,l,-,F⟩
    . cases u
    . rw[<- F,rS u.symm])
   go_wp2_with fail;refine(S.rd.take _).mono ?_;rintro j w9 ⟨_,rfl,h9,f9⟩;go_wp2;go_end0;refine⟨rfl,va,av,q,q,vc,ax,?_⟩;rw[HF.J.2];exact(S.call h9 f9).fin h
  rcases V.J with⟨hq,-,H⟩|⟨hq,u,f,l,a2,F⟩;(case' inl=>have U:¬(0:Int)<q:=(by omega);clear hq;have Sx:=S;have Q:m'.len<=m.len:=(by rw[H];omega);have A:Hid (∃f l,(uy m').2.len<=f/\jb uy f l (uy m').2=dk uy (m.name.2.take cq)):=au ⟨_,_,ae _,by rw[<- H];rfl⟩;clear H d;have d:=Sx.rd.nw.1;go_wp2_with fail;generalize m'=mx at Sx Q A);(case' inr=>have U:(0:Int)<q:=(by omega);have ic:m'.is (ByteArray.mk #[44])=true:=u.symm;have⟨e3,e4,e5⟩:=S.rd.live ic;obtain⟨f,rfl⟩:∃g,f=g+1:=⟨f - 1,by omega⟩;have xE:=au (rR F ic);clear u F;go_wp2_with fail;refine(S.rd.next e4).mono ?_;rintro j wa ⟨rfl,ha,fa⟩;have Sx:=S.call ha fa;have Q:q+m'.next.len<=m.len:=(by omega);have aa:=Dv m'.next.name.2;have ab:=dW m'.next;have A:Hid (∃f l,(uy m'.next).2.len<=f/\jb uy f l (uy m'.next).2=dk uy (m.name.2.take cq)):=au ⟨f,_,by show(rF m'.next.name.2).2.len<=f;omega,xE.J⟩;clear d aa ab xE e5;have d:=Sx.rd.nw.1;go_wp2_with fail;generalize m'.next=mx at Sx Q A);all_goals have W:q+mx.len<=m.len:=(by omega);clear U;refine(Sx.rd.name).mono ?_;rintro j wb ⟨r,e,rfl,cG,fb⟩;have Sb:=(Sx.call cG fb).new #[θ r,ι κ e] 34;have FJ:=dW mx;clear d;go_wp2_with fail;refine(Sb.rd.kind).mono ?_;rintro j wc ⟨k,rfl,Px,fc⟩;have C:=Sb.call Px fc;have⟨u0,u1⟩:=kT C.box;have d:=C.rd.nw.1;have a1:=C.rd.lt;have E6:=Dv mx.name.2;have O:=((C.alloc (Yr r e)).drew).mr;have⟨xs,own⟩:=O.row;have uQ:=au (World.news_of_block (w:=(wc.alloc (Yr r e)).drew) (B:=wc.heap.size) (ak wc (Yr r e)));have xc:=au (show(wc.alloc (Yr r e)).drew.heap.size=wc.heap.size+1 by show(wc.heap.push _).size=_;rw[ej]);have zc:=au O.rd.fr.keeps.size;have H1:=au (show∀T∈[Value.string r,ι κ e],T.oneCell'=true by intro T y;simp at y;rcases y with rfl|rfl<;>rfl);go_wp2_with fail;go_region_law(refine step_append_lies _ rfl (.tmp 34) (.tmp 36) 35 rfl w.heap.size 34 i0 _ 2 24 underlying35 hi lU lV lk rfl (by decide) _ _ _ (by simp[Act.eval]) own (Ad wc.heap.size 0) 1 1 [θ r,ι κ e] (by simp[Act.eval]) rfl uQ.J H1.J (by decide) (by unfold maxLen;omega) (by omega) zc.J (wc.heap.size+1) xc.J ?_;intro g P G py tR zB _;have D:=O.app py tR (by rw[xc.J];rcases zB with h|h;exact .inl h;exact .inr (by omega));have ap:=D.rd.nw.1;have kf:=D.rd.nw.2.2.2.2 14;clear py tR zB);all_goals have Se:=D.akB (ψ (σ (Ad g 0)) (q+1) P);have aq:=Se.rd.nw.2.1;have Sf:=(Se.alloc (ξ #[ι κ k] 3)).mr;have⟨ys,Y⟩:=Sf.row;have Dr:=Y;have I:=ak (G.setCell (Ad p 14) (ψ (σ (Ad g 0)) (q+1) P)) (ξ #[ι κ k] 3 (0,0));have al:(G.setCell (Ad p 14) (ψ (σ (Ad g 0)) (q+1) P)).heap.size=G.heap.size:=(by simp[World.setCell]);rw[al]at I;have ZC:=au (World.news_of_block I);have GH:=D.rd.fr.keeps.size;clear Y I;go_wp2_with(at_builtin;refine cP _ rfl _ _ 36 rfl w.heap.size 3 j0 _ 1 8 underlying36 hj am an XG rfl (by decide) _ _ _ rfl Dr (Ad G.heap.size 0) 1 1 [ι κ k] rfl rfl ZC.J (λT y=>by simp at y;subst y;rfl) (by decide) (by unfold maxLen;omega) (by omega) (by simp[World.setCell]at GH ⊢;omega) ?_);intro g2 wT we cj cx eK;have K:=Sf.app cj cx (by simpa[World.setCell]using eK);have a4:=K.rd.nw.2.1;have a0:=K.rd.nw.2.2.2.2 15;have M:=K.ar6 (ψ (σ (Ad g2 0)) (q+1) wT);have ar:lenOf (((we.setCell (Ad p 15) (ψ (σ (Ad g2 0)) (q+1) wT)).cell? (Ad p 14)).getD undef)=q+1:=(by rw[M.rd.nw.1];rfl);clear cj cx eK aq ap kf;go_wp2_with(go_at_call 35;refine(M.rd.is _).mono ?_;rintro r' w' ⟨rfl,rfl⟩);go_roundw;(case rel=>have⟨f',l',ad,W⟩:=A.J;exact⟨_,_,_,_,q+1,rfl,M.mr.drop,by omega,au (.inr ⟨by omega,rfl,f',l',ad,W⟩)⟩);case measure=>rw[ar,Bb];omega
end
abbrev Sli:=Option Addr×Nat×Nat
structure SV where
 w:ByteArray
 i:Int
 t:ByteArray
 j:Int
 n:Sli
 e:Sli
 l:ByteArray
 li:Int
 r:ByteArray
 ri:Int
 eq:Int
 k:Sli
 d:Sli
 x:Int
def tE(a:SV):Array υ:=#[θ a.w,ι κ a.i,θ a.t,ι κ a.j,.slice a.n.1 a.n.2.1 a.n.2.2,.slice a.e.1 a.e.2.1 a.e.2.2,θ a.l,ι κ a.li,θ a.r,ι κ a.ri,ι κ a.eq,.slice a.k.1 a.k.2.1 a.k.2.2,.slice a.d.1 a.d.2.1 a.d.2.2,ι κ a.x]
theorem dp{w:ω}{b:Nat}{cs:Array υ}{t:TypeId}(h:w.heap[b]?=σ (ξ cs t (0,0)))(i:Nat):w.cell? (Ad b i)=cs[i]?:=by simp[World.cell?,h]
theorem V6(m:Mode):(m.name.2.take wJ).len<=m.len:=ag (take_len m.name.2 wJ) (dW m)
section
variable {o:ω×υ} {w w':ω} {p b:Nat} {c:gO} {v:υ} {m:Mode} {n:Nat} {L:List Item} {X:Item} {a:SV}
theorem St.mapped(S0:St o w p c v m n [.box b (tE a) 95,X])(hd:c.deep=0)(hm:n+m.len<=600)(h1:a.n=(ν,0,0))(h2:a.e=(ν,0,0)):Calls prog 54 #[π (σ (Ad p 0)),π (σ (Ad b 0))] w λF w'=>
 F=τ (.tuple #[])/\∃(v':υ) (n':Nat) (a':SV),St o w' p c v' (dk fA m).2 n' [.box b (tE a') 95,X]/\n<=n'/\n'+(dk fA m).2.len<=n+m.len+(dk fA m).2.due:=by
 have⟨i0,hi,lU,lV,lk⟩:=info_parts Tryz.Ep;have⟨j0,hj,am,an,XG⟩:=info_parts Tryz.Ye;have SA:St o w p c v m n [.row (ψ ν 0 0) 34 2 0,.row (ψ ν 0 0) 3 1 0,.box b (tE { a with n:=(ν,0,0),e:=(ν,0,0) }) 95,X]:=(by have ab:{ a with n:=(ν,0,0),e:=(ν,0,0) }=a:=(by cases a;cases h1;cases h2;rfl);rw[ab];exact(S0.nil 3 1).nil 34 2);go_in;go_wp2;go_loopw[4] (λx wr=>∃(t:Bool) (m':Mode) (v':υ) (n':Nat) (d y:Option Addr) (e A q:Nat),x=.bool t/\St o wr p c v' m' n' [.row (ψ d q e) 34 2 q,.row (ψ y q A) 3 1 q,.box b (tE { a with n:=(d,q,e),e:=(y,q,A) }) 95,X]/\q+n<=n'/\n'+m'.len<=n+m.len+m'.due/\Hid ((q=0/\t=true/\m'=m/\n'=n)\/(0<q/\t=m'.is lT/\∃f l,m'.len<=f/\jb fA f l m'=dk fA m))) (λ_ wr=>2000 - lenOf ((wr.cell? (Ad b 4)).getD undef));case atStart=>exact⟨true,_,_,_,_,_,_,_,0,rfl,SA,by omega,by omega,au (.inl ⟨rfl,rfl,rfl,rfl⟩)⟩
 case round=>
  obtain⟨t,m',v',n',d,y,e,A,q,rfl,S,a1,Y,HA⟩:=hrel;have c4:wr.cell? (Ad b 4)=σ (ψ d q e):=dp S.drop.drop.box 4;have Bb:lenOf ((wr.cell? (Ad b 4)).getD undef)=q:=by rw[c4];rfl
  have aC:=wm m';cases t
  .have HF:=au (show(dk fA m).2=m' by
    rcases HA.J with⟨-,C,-⟩|⟨-,C,f,l,-,M⟩
    . cases C
    . rw[<- M,rS C.symm])
   go_wp2;go_end0;refine⟨rfl,v',n',{ a with n:=(d,q,e),e:=(y,q,A) },?_⟩;rw[HF.J];exact⟨S.drop.drop,by omega,Y⟩
  rcases HA.J with⟨hq,-,O,GM⟩|⟨hq,C,f,l,a0,M⟩;(case' inl=>have Z:¬(0:Int)<q:=(by omega);have Sx:=S;have V:n'+m'.len<=n+m.len:=(by rw[O,GM];omega);have G:Hid ((fA m').2.len<=m'.len->∃f l,(fA m').2.len<=f/\jb fA f l (fA m').2=dk fA m):=au λ_=>⟨_,_,ae _,by rw[<- O];rfl⟩;clear O GM hq;have aa:wr.cell? (Ad b 4)=σ (ψ d q e):=c4;go_wp2_with fail;generalize m'=mx at Sx V G);(case' inr=>have Z:(0:Int)<q:=(by omega);have ic:m'.is (ByteArray.mk #[44])=true:=C.symm;have⟨e3,e4,e5⟩:=S.rd.live ic;rw[sG e3]at Y;obtain⟨f,rfl⟩:∃g,f=g+1:=⟨f - 1,by omega⟩;have xE:=au (rR M ic);clear C M;go_wp2_with fail;refine(S.rd.next e4).mono ?_;rintro F wa ⟨rfl,ha,fa⟩;have Sx:=S.call ha fa;have V:n'+m'.next.len<=n+m.len:=(by omega);have G:Hid ((fA m'.next).2.len<=m'.next.len->∃f l,(fA m'.next).2.len<=f/\jb fA f l (fA m'.next).2=dk fA m):=au λhk=>⟨f,_,by omega,xE.J⟩;have aa:wa.cell? (Ad b 4)=σ (ψ d q e):=dp Sx.drop.drop.box 4;clear xE e5;go_wp2_with fail;generalize m'.next=mx at Sx V G);all_goals clear Z aa;refine(Sx.rd.name).mono ?_;rintro F wb ⟨u,r,rfl,cG,fb⟩;have Sb:=(Sx.call cG fb).new #[θ u,ι κ r] 34;go_wp2_with fail;refine(Sb.rd.take _).mono ?_;rintro F wc ⟨_,rfl,Px,fc⟩;have Mn:=V6 mx;have Md:Rd o wc p c v' (mx.name.2.take wJ) n':=Px;go_wp2_with fail;refine(Pe o wc p c v' (mx.name.2.take wJ) n' Md (by omega) (by omega)).mono ?_;rintro F j ⟨vd,nd,k,rfl,ac,fd,U⟩;have H:=(Sb.call Md fc).call ac fd;have⟨u0,u1⟩:=kT H.box;have c5:j.cell? (Ad b 4)=σ (ψ d q e):=dp H.drop.drop.drop.box 4;have ax:=(dq.mp H.drop.drop.drop.box).1;have aq:=U.bud;have ar:=U.gr;have av:=wm (fE (lvl 8) (mx.name.2.take wJ)).2;have T:=((H.alloc (ξ #[θ u,ι κ r] 34)).drew).mr;have⟨xs,own⟩:=T.row;have vu:=au own;have uQ:=au (World.news_of_block (w:=(j.alloc (ξ #[θ u,ι κ r] 34 (0,0))).drew) (B:=j.heap.size) (ak j (ξ #[θ u,ι κ r] 34 (0,0))));have xc:=au (show(j.alloc (ξ #[θ u,ι κ r] 34 (0,0))).drew.heap.size=j.heap.size+1 by show(j.heap.push _).size=_;rw[ej]);have zc:=au T.rd.fr.keeps.size;have H1:=au (show∀W∈[Value.string u,ι κ r],W.oneCell'=true by intro W E;simp at E;rcases E with rfl|rfl<;>rfl);clear own;go_wp2_with fail;go_region_law(refine step_append_lies _ rfl (.tmp 28) (.tmp 30) 35 rfl o.1.heap.size 34 i0 _ 2 24 underlying35 hi lU lV lk rfl (by decide) _ _ _ (by simp[Act.eval]) vu.J (Ad j.heap.size 0) 1 1 [θ u,ι κ r] (by simp[Act.eval]) rfl uQ.J H1.J (by decide) (by unfold maxLen;omega) (by omega) zc.J (j.heap.size+1) xc.J ?_;intro g K D py tR zB _;have I:=T.app py tR (by rw[xc.J];rcases zB with h|h;exact .inl h;exact .inr (by omega));have k4:D.cell? (Ad b 4)=σ (ψ d q e):=dp I.drop.drop.box 4;have kf:=bZ I.drop.drop.box 4;clear py tR zB);all_goals have Se:=I.mr.mr.put 4 (ψ (σ (Ad g 0)) (q+1) K);have k5:(D.setCell (Ad b 4) (ψ (σ (Ad g 0)) (q+1) K)).cell? (Ad b 5)=σ (ψ y q A):=dp Se.box 5;have Sf:=(Se.alloc (ξ #[ι κ k] 3)).mr.mr.mr.mr;have⟨ys,Kn⟩:=Sf.row;have Dr:=au Kn;have P:=ak (D.setCell (Ad b 4) (ψ (σ (Ad g 0)) (q+1) K)) (ξ #[ι κ k] 3 (0,0));have al:(D.setCell (Ad b 4) (ψ (σ (Ad g 0)) (q+1) K)).heap.size=D.heap.size:=(by simp[World.setCell]);rw[al]at P;have ZC:=au (World.news_of_block P);have GH:=I.rd.fr.keeps.size;clear Kn P;go_wp2_with(at_builtin;refine cP _ rfl _ _ 36 rfl o.1.heap.size 3 j0 _ 1 8 underlying36 hj am an XG rfl (by decide) _ _ _ rfl Dr.J (Ad D.heap.size 0) 1 1 [ι κ k] rfl rfl ZC.J (λW E=>by simp at E;subst E;rfl) (by decide) (by unfold maxLen;omega) (by omega) (by simp[World.setCell]at GH ⊢;omega) ?_);intro g2 wT wf cj cx eK;have Q:=Sf.app cj cx (by simpa[World.setCell]using eK);have q5:wf.cell? (Ad b 5)=σ (ψ y q A):=dp Q.mr.box 5;have a2:=bZ Q.mr.box 5;have R:=Q.mr.put 5 (ψ (σ (Ad g2 0)) (q+1) wT);have ap:lenOf (((wf.setCell (Ad b 5) (ψ (σ (Ad g2 0)) (q+1) wT)).cell? (Ad b 4)).getD undef)=q+1:=(by rw[dp R.box 4];rfl);clear cj cx eK k5 k4 kf;go_wp2_with(go_at_call 35;refine(R.rd.is _).mono ?_;rintro r' w' ⟨rfl,rfl⟩);go_roundw;(case rel=>have⟨f',l',ad,KN⟩:=G.J (ag U.len Mn);exact⟨_,_,_,nd,_,_,_,_,q+1,rfl,R.mr.mr.drop,by omega,by omega,au (.inr ⟨by omega,rfl,f',l',ad,KN⟩)⟩);case measure=>rw[ap,Bb];omega
end
