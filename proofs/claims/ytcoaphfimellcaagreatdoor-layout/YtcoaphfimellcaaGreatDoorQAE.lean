import Derived.Test.YtcoaphfimellcaaGreatDoorQAD
import Derived.Deep.AppendLies
set_option maxHeartbeats 0
set_option maxRecDepth 100000
namespace Go.Proofs.YtcoaphfimellcaaGreatDoor
open Go.RowKit
open _root_.Go.Proofs.Tryz
open Option renaming some→σ,none→ν
open Go.IntKind renaming i64→κ
open Go.Ending renaming returned→τ
open Go.Obj renaming cells→ξ
open Go renaming World→ω,Value→υ
open Go.RowKit renaming Below→δ
open Go.Value renaming int→ι,string→θ,slice→ψ,pointer→π,agg→χ
variable{r:List Nat}{u X K:Nat}{y e I T:υ}{d:Nat->Prop}{j R:TypeId}{W:Program}{P U:ω}{M:Option Nat}{V:ByteArray}
theorem aw{w:ω}{g:Nat}{o:Obj}(h:w.heap[g]?=σ o):g<w.heap.size:=(cW.mp h).1
def bu(w:ω)(size:Nat)(v:υ)(n:Nat)(xs:List υ):Prop:=
 xs.length=n*size/\((n=0/\∃a c,v=ψ a 0 c)\/∃g o cap,v=ψ (σ (Ad g o)) n cap/\n<=cap/\g<w.heap.size/\∀j,j<n*size->w.cell? (Ad g (o+j))=xs[j]?)
section
variable {w w':ω} {size n B:Nat} {v:υ} {xs:List υ}
theorem bu.eY{t:TypeId}(h:w.ownsRow u t size v n xs):bu w size v n xs:=by
 refine⟨h.1,?_⟩;rcases h.2 with⟨j,r⟩|⟨g,cap,cur,e,E,y,C,F⟩
 {exact .inl ⟨r,ν,0,by rw[j]⟩};refine .inr ⟨g,0,cap,e,C,aw y,λD A=>?_⟩;have d:=h;rw[e]at d;rw[fK];exact d.cellAt D A
theorem bu.below(h:bu w size v n xs)(d:δ B w w')(D:w.heap.size<=B):bu w' size v n xs:=by
 refine⟨h.1,?_⟩;rcases h.2 with j|⟨g,o,cap,C,A,u,r⟩
 {exact .inl j};exact .inr ⟨g,o,cap,C,A,ai u d.size,λe y=>(d.cell (p:=(Ad g (o+e))) (by simp;omega)).trans (r e y)⟩
theorem bu.stays(h:bu w size v n xs)(D:w.heap.size<=w'.heap.size)(r:∀a c,v=ψ (σ a) n c->w'.heap[a.block]?=w.heap[a.block]?):bu w' size v n xs:=by
 refine⟨h.1,?_⟩;rcases h.2 with j|⟨g,o,cap,d,A,C,u⟩
 {exact .inl j};refine .inr ⟨g,o,cap,d,A,by omega,λe y=>?_⟩;rw[<- u e y];exact bZ (w:=w) (a:=(Ad g (o+e))) (r (Ad g o) cap d)
theorem bu.slice(h:bu w size v n xs):∃a cap,v=ψ a n cap:=by rcases h.2 with⟨e,a,c,d⟩|⟨g,o,cap,d,-⟩;{exact⟨a,c,by rw[d,e]⟩};exact⟨_,cap,d⟩
theorem bu.at(h:bu w size v n xs)(D:0<n):∃g o cap,v=ψ (σ (Ad g o)) n cap/\n<=cap/\g<w.heap.size/\∀d e,xs[d]?=σ e->w.cell? (Ad g (o+d))=σ e:=by rcases h.2 with⟨C,-⟩|⟨g,o,cap,y,r,u,A⟩;{omega};exact⟨g,o,cap,y,r,u,λd e j=>(A d (by rw[<- h.1];exact(aj.mp j).1)).trans j⟩
end
theorem rG{α:Type}(f:α->List υ)(k:Nat)(hf:∀a,(f a).length=k)(l:List α):(l.flatMap f).length=l.length*k:=by
 induction l with
 |nil=>simp
 |cons a l d=>rw[gQ,az,d,hf,a7,nY];omega
theorem dy{α:Type}(f:α->List υ)(k:Nat)(hf:∀a,(f a).length=k)(l:List α){i:Nat}{a:α}(d:l[i]?=σ a){j:Nat}(e:j<k):(l.flatMap f)[i*k+j]?=(f a)[j]?:=by
 induction l generalizing i with
 |nil=>simp at d
 |cons x l r=>
   rw[gQ]
   cases i with
   |zero=>
     simp at d;subst d;rw[qx,fK,cw (by rw[hf];exact e)]
   |succ i=>
     rw[bp (by rw[hf,nY];omega),hf,show(i+1)*k+j - k=i*k+j by rw[nY];omega];exact r (by simpa using d)
theorem Zz{α:Type}(f:α->List υ)(k:Nat)(hf:∀a,(f a).length=k)(l:List α){i:Nat}{a:α}(d:i<l.length):(l.set i a).flatMap f=(l.flatMap f).take (i*k)++f a++(l.flatMap f).drop (i*k+k):=by
 induction l generalizing i with
 |nil=>simp at d
 |cons x l j=>
   cases i with
   |zero=>rw[dL,gQ,gQ,qx,fK,lh,dW,List.drop_append_of_le_length (by rw[hf];exact ae _),kP (by rw[hf];exact ae _),dW]
   |succ i=>
     have e:(i+1)*k=(f x).length+i*k:=by rw[hf,nY];omega
     rw[jz,gQ,gQ,j (by simpa using d),e,List.take_length_add_append,iH,List.drop_length_add_append];simp[List.append_assoc]
section
variable {α:Type} {f:α->List υ} {k:Nat} (hf:∀a,(f a).length=k)
include hf
theorem zL(a:α)(z:υ)(A:z.cells.toList=f a)(y:0<k)(n:Nat):(madeCells z.cells (n*k)).toList=(List.replicate n a).flatMap f:=by
 have j:z.cells.size=k:=by rw[<- dO,A,hf]
 apply cB;intro d;by_cases u:d<n*k;{have C:d / k<n:=(by rw[Nat.div_lt_iff_lt_mul y];exact u);have e:=Nat.mod_lt d y;have r:=dy f k hf (List.replicate n a) (i:=d / k) (a:=a) (by rw[df,aF C]) e;rw[show d / k*k+d % k=d by rw[Nat.mul_comm];exact Nat.div_add_mod d k]at r;rw[r,<- A];simp[madeCells,u,j];rw[getElem!_pos _ _ (by rw[j];exact e),eu (by rw[j];exact e)]};rw[aZ (by rw[dO,size_madeCells];omega),aZ (by rw[rG f k hf,jt];omega)]
theorem ad8{l:List α}{i:Nat}{a:α}(u:i<l.length){j:List υ}(A:∀d,d<k->j[i*k+d]?=(f a)[d]?)(r:∀d,d<i*k\/i*k+k<=d->j[d]?=(l.flatMap f)[d]?):j=(l.set i a).flatMap f:=by
 have C:=rG f k hf l;have D:i*k+k<=l.length*k:=by have:=gg k (Nat.succ_le_of_lt u);rw[qy]at this;exact this
 rw[Zz f k hf l u];apply cB;intro d;have e:((l.flatMap f).take (i*k)).length=i*k:=by rw[bV,C];omega
 by_cases h:d<i*k;{rw[r d (.inl h),cj,cw (by omega),gd,aF h]};by_cases y:d<i*k+k;{have:=A (d - i*k) (by omega);rw[show i*k+(d - i*k)=d by omega]at this;rw[this,cw (by rw[az,e,hf];exact y),bp (by omega),e]};rw[r d (.inr (by omega)),bp (by rw[az,e,hf];omega),az,e,hf,il,show i*k+k+(d - (i*k+k))=d by omega]
end
def oE(c:aD):List υ:=[.bool c.null,ι κ c.n,θ c.s]
def kA(c:aD):υ:=χ #[.bool c.null,ι κ c.n,θ c.s]
def bI(l:List aD):List υ:=l.flatMap oE
theorem qR(c:aD):(oE c).length=3:=rfl
def mW(w:ω)(v:υ)(cs:List aD):Prop:=bu w 3 v cs.length (bI cs)
theorem mW.get{w:ω}{v:υ}{cs:List aD}(h:mW w v cs){i:Nat}{c:aD}(d:cs[i]?=σ c):∃g o cap,v=ψ (σ (Ad g o)) cs.length cap/\w.cell? (Ad g (o+i*3))=σ (.bool c.null)/\w.cell? (Ad g (o+i*3+1))=σ (ι κ c.n)/\w.cell? (Ad g (o+i*3+2))=σ (θ c.s):=by obtain⟨g,o,cap,j,-,-,e⟩:=bu.at h (du (aK _) (aj.mp d).1);exact⟨g,o,cap,j,e (i*3) _ (dy oE 3 qR cs d (j:=0) (by decide)),e (i*3+1) _ (dy oE 3 qR cs d (j:=1) (by decide)),e (i*3+2) _ (dy oE 3 qR cs d (j:=2) (by decide))⟩
def eC(w:ω)(v:υ)(b:List (List aD)):Prop:=∃vs,bu w 1 v b.length vs/\∀(i:Nat) (cs:List aD),b[i]?=σ cs->∃u,vs[i]?=σ u/\mW w u cs
theorem eC.below{w w':ω}{B:Nat}{v:υ}{b:List (List aD)}(h:eC w v b)(e:δ B w w')(d:w.heap.size<=B):eC w' v b:=by obtain⟨D,j,r⟩:=h;exact⟨D,j.below e d,λi cs A=>by obtain⟨C,u,y⟩:=r i cs A;exact⟨C,u,y.below e d⟩⟩
theorem eC.get{w:ω}{v:υ}{b:List (List aD)}(h:eC w v b){i:Nat}{cs:List aD}(e:b[i]?=σ cs):∃g o cap d,v=ψ (σ (Ad g o)) b.length cap/\w.cell? (Ad g (o+i))=σ d/\mW w d cs:=by obtain⟨D,j,r⟩:=h;obtain⟨d,u,y⟩:=r i cs e;obtain⟨g,o,cap,A,-,-,C⟩:=j.at (du (aK _) (aj.mp e).1);exact⟨g,o,cap,d,A,C i d u,y⟩
theorem eC.slice{w:ω}{v:υ}{b:List (List aD)}(h:eC w v b):∃a cap,v=ψ a b.length cap:=h.elim λ_ h=>h.1.slice
def mM(n:Nat):υ:=ι κ n
def gw(w:ω)(v:υ)(l:List Nat):Prop:=bu w 1 v l.length (l.map mM)
theorem gw.get{w:ω}{v:υ}{l:List Nat}(h:gw w v l){i n:Nat}(d:l[i]?=σ n):∃g o cap,v=ψ (σ (Ad g o)) l.length cap/\w.cell? (Ad g (o+i))=σ (ι κ n):=by obtain⟨g,o,cap,e,-,-,j⟩:=bu.at h (du (aK _) (aj.mp d).1);exact⟨g,o,cap,e,j i _ (by rw[aV,d];rfl)⟩
def mP(c:br):List υ:=[θ c.1,ι κ c.2]
theorem Kk(c:br):(mP c).length=2:=rfl
def ew(w:ω)(v:υ)(cols:List br):Prop:=bu w 2 v cols.length (cols.flatMap mP)
theorem ew.get{w:ω}{v:υ}{cols:List br}(h:ew w v cols){i:Nat}{c:br}(d:cols[i]?=σ c):∃g o cap,v=ψ (σ (Ad g o)) cols.length cap/\w.cell? (Ad g (o+i*2))=σ (θ c.1)/\w.cell? (Ad g (o+i*2+1))=σ (ι κ c.2):=by obtain⟨g,o,cap,j,-,-,e⟩:=bu.at h (du (aK _) (aj.mp d).1);exact⟨g,o,cap,j,e (i*2) _ (dy mP 2 Kk cols d (j:=0) (by decide)),e (i*2+1) _ (dy mP 2 Kk cols d (j:=1) (by decide))⟩
theorem ew.below{w w':ω}{B:Nat}{v:υ}{cols:List br}(h:ew w v cols)(e:δ B w w')(d:w.heap.size<=B):ew w' v cols:=bu.below h e d
theorem ew.slice{w:ω}{v:υ}{cols:List br}(h:ew w v cols):∃a cap,v=ψ a cols.length cap:=bu.slice h
def yg(cols:List br)(s:ByteArray):Int:=match Lx cols s with
 |some i=>i
 |none=>-1
theorem ad9{cols:List br}{s:ByteArray}(h:∀(d:Nat) (c:br),cols[d]?=σ c->iZ c.1 s=false):Lx cols s=ν:=by unfold Lx;rw[List.findIdx?_eq_none_iff];intro c e;obtain⟨d,j⟩:=dz e;exact h d c j
theorem aea{cols:List br}{s:ByteArray}{i:Nat}{c:br}(u:cols[i]?=σ c)(r:iZ c.1 s=true)(h:∀(d:Nat) (c:br),d<i->cols[d]?=σ c->iZ c.1 s=false):Lx cols s=σ i:=by unfold Lx;obtain⟨e,j⟩:=aj.mp u;rw[iD];refine⟨e,by rw[j];exact r,λd y=>?_⟩;have:=h d cols[d] y (af (by omega));simp[this]
def ft(lo hi:Nat)(a b:ω):Prop:=hi<=b.heap.size/\∀k,lo<=k->k<hi->b.heap[k]?=a.heap[k]?
def Enters(n:Nat):Prop:=∀(args:Array υ) (w:ω),Sem.run prog (callFunc n args) w=.ok (.enter n args) w
theorem ft.below{lo:Nat}{a b c:ω}(h:ft lo a.heap.size a b)(e:δ b.heap.size b c):ft lo a.heap.size a c:=⟨ag h.1 e.size,λk j d=>(e.block k (ai d h.1)).trans (h.2 k j d)⟩
theorem ft.of{lo:Nat}{a b:ω}(d:δ a.heap.size a b):ft lo a.heap.size a b:=⟨d.size,λk _ e=>d.block k e⟩
theorem ft.back{lo:Nat}{a b c:ω}(d:δ a.heap.size a b)(h:ft lo b.heap.size b c):ft lo a.heap.size a c:=⟨ag d.size h.1,λk j e=>(h.2 k j (ai e d.size)).trans (d.block k e)⟩
theorem ft.block{lo k:Nat}{a b:ω}{o:Obj}(h:ft lo a.heap.size a b)(e:lo<=k)(d:a.heap[k]?=σ o):b.heap[k]?=σ o:=(h.2 k e (aw d)).trans d
theorem cq{w w':ω}{size n:Nat}{t:TypeId}{v:υ}{xs:List υ}(h:w.ownsRow u t size v n xs)(d:δ w.heap.size w w'):w'.ownsRow u t size v n xs:=h.kept (row:=ν) ⟨d.os,d.tape,d.output,d.size,λk e _=>d.block k e⟩ (by cases h:v.ownBlock<;>simp)
theorem cu{w:ω}{size:Nat}{v:υ}{n:Nat}{xs:List υ}(h:w.ownsRow u j size v n xs):∃a cap,v=ψ a n cap/\(0<n->∃g,a=σ (Ad g 0)/\u<=g)/\n<=cap:=by rcases h.2 with⟨rfl,rfl⟩|⟨g,cap,cur,rfl,d,_,e,_⟩;{exact⟨ν,0,rfl,λh=>by omega,by omega⟩};exact⟨_,cap,rfl,λ_=>⟨g,rfl,d⟩,e⟩
theorem dH{w w':ω}{size n:Nat}{t:TypeId}{v:υ}{xs:List υ}{row:Option Nat}(h:w.ownsRow u t size v n xs)(j:w.grownBy w' row)(e:∀k,row=σ k->v.ownBlock≠σ k):w'.ownsRow u t size v n xs:=h.kept j (by
 cases r:v.ownBlock with
 |none=>exact .inl rfl
 |some k=>exact .inr (λd=>e k d.symm r))
theorem cell0{w:ω}{q:Nat}{cs:Array υ}{t:TypeId}(h:w.heap[q]?=σ (ξ cs t (0,0)))(i:Nat):w.cell? (Ad q i)=cs[i]?:=by simp[World.cell?,h]
theorem eR{w:ω}{q:Nat}{cs:Array υ}{t:TypeId}(h:w.heap[q]?=σ (ξ cs t (0,0)))(i:Nat):w.frozen? (Ad q i)=false:=by simp[World.frozen?,h]
theorem iC{t:TypeId}{z:υ}(h:(W.info? t).map (λi=>(i.zero,i.size,i.bytes))=σ (σ z,u,X)):∃i,W.info? t=σ i/\i.zero=σ z/\i.size=u/\i.bytes=X:=by
 cases hi:W.info? t with
 |none=>rw[hi]at h;cases h
 |some i=>rw[hi]at h;simp at h;exact⟨i,rfl,h.1,h.2.1,h.2.2⟩
theorem Uk{w:ω}{ops:Array Oper}{rest:List Oper}{o:Oper}{a:Act}{r:Exit->Act->ω->Prop}(H:o.guard=ν)(s x:Operand)(t:TypeId)
 (M:o.op=.call { callee:=.builtin .append,args:=#[s,x],argTypes:=#[t,t] }) {base:Nat}  {z:υ} {size bytes:Nat} (P:W.underlying t=σ (.slice j)) (F:(W.info? j).map (λi=>(i.zero,i.size,i.bytes))=σ (σ z,size,bytes)) (e:z.cells.size=size/\0<size/\bytes<=1000)
 {v:υ} {n:Nat} {xs:List υ} (O:a.eval s=v) (y:w.ownsRow base j size v n xs) {d:Array υ} {N:Nat} (Q:a.eval x=ψ (σ (Ad N 0)) 1 1) (G:N=w.heap.size) (u:d.size=size) (A:∀V∈d.toList,V.oneCell'=true) (K:n+1<=100000) (X:base<=w.heap.size)
 (h:∀g cap w',w'.ownsRow base j size (ψ (σ (Ad g 0)) (n+1) cap) (n+1) (xs++d.toList)->(w.alloc (ξ d j)).grownBy w' v.ownBlock->(v.ownBlock=σ g\/w.heap.size+1<=g)->wpList W ops r rest (a.put o.dst (ψ (σ (Ad g 0)) (n+1) cap)) w'):wpList W ops r (o::rest) a (w.alloc (ξ d j)):=by subst G;obtain⟨i,I,T,U,R⟩:=iC F;refine cJ _ H s x t M base j i z size bytes P I T U R e.1 e.2.1 v n xs O (y.alloc _) (Ad w.heap.size 0) 1 1 d.toList Q (by rw[dO,u,Nat.one_mul]) (World.news_of_block (au w (ξ d j))) A (by decide) (by unfold maxLen;omega) (ag (lj K e.2.2) (by decide)) (by simp;omega) ?_;intro g cap w' C D E;exact h g cap w' C D (by simpa using E)
theorem ail(c:br)(s:ByteArray)(q:Nat)(w:ω)(e:w.cell? ⟨q,0,ν⟩=σ (θ s))(r:q<w.heap.size):Calls prog 198 #[χ #[θ c.1,ι κ c.2],π (σ ⟨q,0,ν⟩)] w λu w'=>u=τ (.bool (iZ c.1 s))/\δ w.heap.size w w':=by have d:δ w.heap.size w (w.alloc (ξ #[θ c.1,ι κ c.2] 202)):=(ah _ _).alloc (ae _) _;have y:=(d.cell (p:=⟨q,0,ν⟩) r).trans e;have j:=d;have A:(c.1.toList==s.toList)=iZ c.1 s:=mV c.1 s;clear d e;go_in;go_wp2_with fail;(try(go_quiet(fail);go_wp2_with fail));go_ret;exact⟨rfl,by repeat(first|exact j|refine aH ?_|refine below_drewN ?_ _)⟩
theorem aeb(cols:List br)(v:υ)(s:ByteArray)(q:Nat)(w:ω)(A:ew w v cols)(hl:cols.length<=100000)(G:w.cell? ⟨q,0,ν⟩=σ (θ s))(E:q<w.heap.size):Calls prog 197 #[v,.func (.func 198) #[] #[π (σ ⟨q,0,ν⟩)]] w λI w'=>I=τ (ι κ (yg cols s))/\δ w.heap.size w w':=by
 have O:=A;have R:=ak G;obtain⟨va,Y,U⟩:=A.slice;subst U;clear A G;go_in;go_wp2_with fail;go_loopw[8] (λc wr=>∃i:Nat,i<=cols.length/\c=ι κ i/\Hid (δ w.heap.size w wr)/\Hid (∀(d:Nat) (c:br),d<i->cols[d]?=σ c->iZ c.1 s=false)) (λc _=>cols.length - (intOf c).toNat);case atStart=>exact⟨0,aK _,rfl,ak (ah _ _),ak (λd c r _=>by omega)⟩
 case round=>
  obtain⟨i,Z,rfl,e,y⟩:=hrel;by_cases T:i<cols.length
  .have V:(i:Int)<cols.length:=by omega
   obtain⟨c,C⟩:∃c,cols[i]?=σ c:=⟨cols[i],af T⟩;obtain⟨g,go,cap,j,W,X⟩:=(O.below e.J (ae _)).get C
   cases j
   have Q:=ail c s q wr ((e.J.cell (p:=⟨q,0,ν⟩) E).trans R.J) (ai E e.J.size);have D:=ak C;clear C;go_wp2_with fail;refine Q.mono ?_;rintro I w2 ⟨rfl,F⟩;have H:=e.J.trans (F.mono e.J.size);clear F
   cases j:iZ c.1 s with
   |true=>
     have M:=ak (show yg cols s=i from by unfold yg;rw[aea D.J j y.J]);clear j;go_wp2_with fail;go_ret;exact⟨by rw[M.J];rfl,H⟩
   |false=>
     have P:=ak j;clear j;go_wp2_with fail;refine⟨⟨i+1,by omega,by go_num,H,ak (λd c' r u=>?_)⟩,by simp[intOf];omega⟩;by_cases K:d=i
     . subst K
       have:=D.J;rw[this]at u
       cases u
       exact P.J
     . exact y.J d c' (by omega) u
  have V:¬(i:Int)<cols.length:=(by omega);go_wp2_with fail;go_ret;refine⟨?_,e.J⟩;have:Lx cols s=ν:=ad9 (λd c r=>y.J d c (by have:=(aj.mp r).1;omega) r);unfold yg;rw[this];rfl
theorem Cj(cols:List br)(v:υ)(s:ByteArray)(w:ω)(e:ew w v cols)(C:cols.length<=100000):Calls prog 174 #[v,θ s] w λr w'=>r=τ (ι κ (yg cols s))/\δ w.heap.size w w':=by have d:δ w.heap.size w (w.alloc (ξ #[θ s] 9)):=(ah _ _).alloc (ae _) _;have y:=aeb cols v s w.heap.size _ (e.below d (ae _)) C (by have h:=au w (ξ #[θ s] 9);simp only[World.cell?,h];rfl) (by simp);have u:=d;obtain⟨va,E,D⟩:=e.slice;subst D;clear e d;go_in;go_wp2_with fail;refine y.mono ?_;rintro r w1 ⟨rfl,j⟩;have A:=u.trans (j.mono (by simp));clear j;go_wp2_with fail;go_ret;exact⟨rfl,A⟩
theorem Tryz.ZH:(prog.info? 233).map (λi=>(i.zero,i.size,i.bytes))=σ (σ (χ #[θ ByteArray.empty,ι κ 0,ι κ 0,ι κ 0,ι κ 0,ι κ 0,θ ByteArray.empty]),7,72):=by kernel_rfl
theorem info_parts{t:TypeId}{z:υ}(h:(W.info? t).map (λi=>(i.zero,i.size,i.bytes))=σ (σ z,u,X)):∃i,W.info? t=σ i/\i.zero=σ z/\i.size=u/\i.bytes=X:=by
 cases hi:W.info? t with
 |none=>rw[hi]at h;simp at h
 |some i=>
   rw[hi]at h;simp at h;exact⟨i,rfl,h.1,h.2.1,h.2.2⟩
theorem aej(n:kB):∀e∈ux n,e.oneCell'=true:=by intro e d;simp[ux]at d;rcases d with rfl|rfl|rfl|rfl|rfl|rfl|rfl<;>rfl
theorem ib.amw{w:ω}{p:Nat}{x:fQ}{m:Mode}{ns:List kB}{n:kB}{g cap:Nat}(h:ib d w p x m ns)(j:δ w.heap.size w P)(T:P.heap.size=w.heap.size+2)
 (O:U.ownsRow 0 233 7 (ψ (σ (Ad g 0)) (ns.length+1) cap) (ns.length+1) (oK ns++ux n)) (F:P.grownBy U x.nodes.ownBlock) (G:x.nodes.ownBlock=σ g\/g=w.heap.size+2) :
 ib d (U.setCell (Ad p 19) (ψ (σ (Ad g 0)) (ns.length+1) cap)) p { x with nodes:=ψ (σ (Ad g 0)) (ns.length+1) cap } m (ns++[n])/\
 aX d w (U.setCell (Ad p 19) (ψ (σ (Ad g 0)) (ns.length+1) cap)):=by have H:=h.pen.lt;have D:g≠p:=(by rcases G with u|u;{intro r;subst r;exact h.apart u};omega);have M:¬d g:=(by rcases G with u|u;{exact h.kv g u};intro e;have:=h.old g e;omega);have I:aX d w P:=aX.tq ⟨j.os,j.tape,j.output,j.size,λk e _=>j.block k e⟩ h.old;have E:aX d w U:=I.grown F (λk e=>by have:=h.old k e;omega) (λk r=>h.kv k r);have y:=E.setCell (p:=(Ad p 19)) h.kp (ψ (σ (Ad g 0)) (ns.length+1) cap);have K:tr U p x:=h.pen.jM ((F.block p (by omega) (λr=>h.apart r.symm)).trans (j.block p H));have Q:Laid U:=(by intro i s A;exact(E.cell (p:=(Ad 0 i)) h.k0).trans (h.laid i s A));refine⟨⟨K.set 19 _ (by simp[iL]),?_,h.p0,h.Bp,h.pos,h.tk,h.tn,h.tp,?_,?_,?_,h.k0,h.kp,?_,?_⟩,y⟩;{intro i s A;exact(y.cell (p:=(Ad 0 i)) h.k0).trans (h.laid i s A)};{have:=h.mode;cases m<;>exact this};{rw[az,Nz];exact O.kept (grownBy_setCell U (Ad p 19) _) (.inr (by simp[Value.ownBlock,D]))};{simp[Value.ownBlock,D]};{intro R C;simp[Value.ownBlock]at C;subst C;exact M};intro k e;exact ai (h.old k e) y.size
def ZI(x:kB):υ:=χ #[θ x.op,ι κ x.pl,ι κ x.first,ι κ x.a,ι κ x.b,ι κ x.n,θ x.s]
theorem Ur{w:ω}{p:Nat}{x:fQ}{m:Mode}{ns:List kB}(h:ib d w p x m ns)(n:kB)(wL:ns.length<=1000):Calls prog 101 #[π (σ (Ad p 0)),ZI n] w λX w'=>
 X=τ (ι κ ns.length)/\∃x',ib d w' p x' m (ns++[n])/\Rest x x'/\aX d w w':=by obtain⟨Q,P,T,U,R⟩:=info_parts Tryz.ZH;have K:w.cell? (Ad p 19)=σ x.nodes:=h.pen.cell 19;have M:=h.pen.fz 19;have D:=h.pen.lt;have e:=ak h;clear h;have aa:∀g,x.nodes.ownBlock=σ g->g<w.heap.size:=λg O=>(e.J.own.lt g O).2;have u:=Uo w (ad4 n.op n.pl n.first n.a n.b n.n n.s) (ad4 n.op n.pl n.first n.a n.b n.n n.s);have Y:=ak (World.news_of_block u.2.2.1);have Z:=ak (aej n);have I:=ak (((e.J.own.alloc (ad4 n.op n.pl n.first n.a n.b n.n n.s)).alloc (ad4 n.op n.pl n.first n.a n.b n.n n.s)).drew);have A:=ak u.1;have j:=ak u.2.2.2;clear u;unfold ZI;go_in;go_wp2_with fail;go_region_law(refine step_append_lies _ rfl (.tmp 10) (.tmp 12) 39 rfl 0 233 Q _ 7 72 underlying39 P T U R rfl (by decide) _ _ _ (by simp[Act.eval]) I.J (Ad (w.heap.size+1) 0) 1 1 (ux n) (by simp[Act.eval]) rfl Y.J Z.J (by decide) (by unfold maxLen;omega) (by omega) (aK _) (w.heap.size+2) j.J ?_;intro g eZ y E r F _;have xQ:=ak E;have G:=ak r;have H:=ak F;have ab:y.cell? (Ad p 19)=σ x.nodes:=(bZ (w':=y) (a:=(Ad p 19)) (r.block p (by rw[j.J];omega) (λC=>e.J.apart C.symm))).trans ((A.J.cell (p:=(Ad p 19)) D).trans K);have kf:y.frozen? (Ad p 19)=false:=(cY (w':=y) (a:=(Ad p 19)) (r.block p (by rw[j.J];omega) (λC=>e.J.apart C.symm))).trans ((A.J.frozen (p:=(Ad p 19)) D).trans M);clear E r F);all_goals(go_wp2_with fail;go_ret;obtain⟨V,W⟩:=ib.amw e.J A.J j.J xQ.J G.J H.J;exact⟨rfl,_,V,⟨rfl,rfl,rfl,rfl,rfl,rfl,rfl,rfl,rfl,rfl,rfl,rfl⟩,W⟩)
theorem Ck(ns:List kB)(a:Nat)(n:kB)(h:ns[a]?=σ n):(oK ns)[a*7+2]?=σ (ι κ n.first):=by rw[Bm ns a 2 (by decide),h];rfl
theorem ib.slice{w:ω}{p:Nat}{x:fQ}{m:Mode}{ns:List kB}(h:ib d w p x m ns)(y:0<ns.length) :
 ∃g cap,x.nodes=ψ (σ (Ad g 0)) ns.length cap/\∀e,e<ns.length*7->w.cell? (Ad g e)=(oK ns)[e]?:=by rcases h.own.2 with⟨_,u⟩|⟨g,cap,_,j,_⟩;{omega};refine⟨g,cap,j,λe r=>?_⟩;have:=h.own;rw[j]at this;exact this.cellAt e r
theorem ais{w:ω}{p:Nat}{x:fQ}{m:Mode}{ns:List kB}(h:ib d w p x m ns)(r:ByteArray)(u a b:Nat)(e:kB)(j:ns[a]?=σ e)(K:ns.length<=1000):Calls prog 73 #[π (σ (Ad p 0)),θ r,ι κ u,ι κ a,ι κ b] w λE w'=>
 E=τ (ι κ ns.length)/\∃x',ib d w' p x' m (ns++[⟨r,u,e.first,a,b,0,⟨#[]⟩⟩])/\Rest x x'/\aX d w w':=by
 have R:a<ns.length:=(aj.mp j).1;obtain⟨g,cap,D,C⟩:=h.slice (by omega);have O:w.cell? (Ad p 19)=σ (ψ (σ (Ad g 0)) ns.length cap):=(h.pen.cell 19).trans (by rw[<- D];rfl);have P:w.cell? (Ad g (a*7+2))=σ (ι κ e.first):=(C _ (by omega)).trans (Ck ns a e j);have Q:(a:Int)<ns.length:=by omega
 have F:=ak h;clear h C D j;go_in;go_wp2_with fail;refine(Ur F.J ⟨r,u,e.first,a,b,0,⟨#[]⟩⟩ K).mono ?_;rintro E w1 ⟨rfl,M,y,I,A⟩;have G:=ak y;have H:=ak A;clear y A;go_wp2_with fail;go_ret;exact⟨rfl,M,G.J,I,H.J⟩
theorem NB{w:ω}{p:Nat}{x:fQ}{m:Mode}{ns:List kB}(h:ib d w p x m ns)(H:x.deep=8):Calls prog 134 #[π (σ (Ad p 0))] w λu w'=>
 u=τ (.bool false)/\∃x',ib d w' p x' (m.wrong 3) ns/\Rest x x'/\x'.nodes=x.nodes/\aX d w w':=by
 have F:w.cell? (Ad p 4)=σ (ι κ x.tp):=h.pen.cell 4;have G:w.cell? (Ad p 8)=σ (ι κ x.deep):=h.pen.cell 8;have g2:(8:Int)<=x.deep:=by omega
 have e:=ak h;clear h;go_in;go_wp2_with fail;refine(F4 e.J 3 x.tp (by decide)).mono ?_;rintro u w1 ⟨rfl,E,j,C,D,r⟩;have y:=ak j;have A:=ak r;clear j r;go_wp2_with fail;go_ret;refine⟨rfl,E,?_,C,D,A.J⟩;rw[<- yw e.J.mode];exact y.J
theorem ael{w:ω}{p:Nat}{x:fQ}{m:Mode}{ns:List kB}(h:ib d w p x m ns)(K:∀t M,m=.live t M->t.k.ends=false)(T:x.deep<8):Calls prog 134 #[π (σ (Ad p 0))] w λA w'=>
 A=τ (.bool true)/\∃x',ib d w' p x' m.next ns/\Rest { x with deep:=x.deep+1 } x'/\x'.nodes=x.nodes/\aX d w w':=by
 have P:w.cell? (Ad p 4)=σ (ι κ x.tp):=h.pen.cell 4;have Q:w.cell? (Ad p 8)=σ (ι κ x.deep):=h.pen.cell 8;have R:=h.pen.fz 8;have g2:¬(8:Int)<=x.deep:=by omega
 have u:tr (w.setCell (Ad p 8) (ι κ ((x.deep:Int)+1))) p { x with deep:=x.deep+1 }:=h.pen.set 8 _ (by simp[iL]);have e:aX (Other p w) w (w.setCell (Ad p 8) (ι κ ((x.deep:Int)+1))):=(aX.refl _ _).own 8 _;have y:ib d (w.setCell (Ad p 8) (ι κ ((x.deep:Int)+1))) p { x with deep:=x.deep+1 } m ns:=(by refine⟨u,h.laid.keeps e h.p0,h.p0,h.Bp,h.pos,h.tk,h.tn,h.tp,?_,h.own.kept (grownBy_setCell w (Ad p 8) _) (.inr h.apart),h.apart,h.k0,h.kp,h.kv,λk I=>by simpa[World.setCell]using h.old k I⟩;have:=h.mode;cases m<;>exact this);have E:=ak (e.mono h.other);have F:=ak y;clear y u e h;go_in;go_wp2_with fail;refine(F3 F.J K).mono ?_;rintro A w1 ⟨rfl,O,j,G,H,r⟩;have C:=ak j;have D:=ak r;clear j r;go_wp2_with fail;go_ret;exact⟨rfl,O,C.J,G,H,E.J.trans D.J⟩
def Mode.alive:Mode->Prop
 |.live _ _=>True
 |.dead _ _=>False
def Mode.due:Mode->Nat
 |.live _ _=>0
 |.dead _ _=>1
theorem Us{x:fQ}{m:Mode}(h:Bn x m){o:ByteArray}(d:m.is o=true):x.tt=o/\x.tp=m.place/\m.alive/\(∀t e,m=.live t e->t.k.ends=false)/\m.next.len+1=m.len:=by
 cases m with
 |dead u b=>simp[Mode.is,Mode.tk]at d
 |live t e=>
   have r:=F5 d;obtain⟨E,j,C,D,_⟩:=h;obtain⟨k,F⟩:=t;have A:=D r;refine⟨?_,C,trivial,λt e u=>by cases u;exact r,?_⟩
   . cases k<;>simp[Mode.is,Mode.tk,jE]at d<;>simp only[nr]at j
     . exact j.2.1.trans d
     . exact j.2.trans d
   . have y:=Cc x.S x.pos
     rw[<- A]at y
     cases e with
     |nil=>exact absurd rfl y
     |cons G H=>rfl
theorem dr{m:Mode}:m.next.len<=m.len:=by
 cases m with
 |dead e b=>exact ae _
 |live t d=>cases d<;>simp[Mode.next,Mode.len]
theorem oV{m:Mode}(h:¬m.alive):m.len=0/\m.due=1:=by
 cases m with
 |dead d b=>exact⟨rfl,rfl⟩
 |live t e=>exact absurd trivial h
theorem rI{m:Mode}(h:m.alive):m.due=0:=by
 cases m with
 |dead d b=>exact h.elim
 |live t e=>rfl
theorem uY(m:Mode):m.due<=1:=by cases m<;>simp[Mode.due]
theorem di(m:Mode)(d:Nat):¬(m.wrong d).alive:=by cases m<;>exactλh=>h
def lenOf:υ->Nat|.slice _ m _=>m|_=>0
theorem Gy{d:Mode->Ex×Mode}{ops:List ByteArray}{f:Nat}{e:Ex}{m:Mode}{j:Ex×Mode}{o:ByteArray}(h:lY d ops (f+1) e m=j)(r:ops.find? (λo=>m.is o)=σ o) :
 lY d ops f (.two o m.place e (d m.next).1) (d m.next).2=j:=by rw[lY,r]at h;exact h
theorem Gz{j:Mode->Ex×Mode}{ops:List ByteArray}{f:Nat}{d:Ex}{m:Mode}(e:ops.find? (λo=>m.is o)=ν):lY j ops f d m=(d,m):=by
 cases f with
 |zero=>rfl
 |succ f=>rw[lY,e]
def Cm(n:Nm):List υ:=[θ n.1,ι κ n.2]
def DK(l:List Nm):List υ:=l.flatMap Cm
theorem dI(m:Mode):m.name.2.len<=m.len:=by unfold Mode.name;split;{exact dr};rw[(oV (di m 2)).1];omega
theorem qT{α:Type}{one:Mode->α×Mode}{f:Nat}{l:List α}{m:Mode}{d:List α×Mode}(h:jT one (f+1) l m=d)(e:m.is qa=true):jT one f (l++[(one m.next).1]) (one m.next).2=d:=by rw[jT,aF e]at h;exact h
theorem qU{α:Type}{one:Mode->α×Mode}{f:Nat}{l:List α}{m:Mode}(d:m.is qa=false):jT one f l m=(l,m):=by
 cases f with
 |zero=>rfl
 |succ f=>rw[jT,aE (by rw[d];decide)]
theorem ib.more{r:Nat->Prop}{w:ω}{p:Nat}{x:fQ}{m:Mode}{ns:List kB}(h:ib d w p x m ns)(A:r 0)(u:∀k,r k->d k\/(k≠p/\x.nodes.ownBlock≠σ k/\k<w.heap.size)):ib r w p x m ns:=
 ⟨h.pen,h.laid,h.p0,h.Bp,h.pos,h.tk,h.tn,h.tp,h.mode,h.own,h.apart,A,
  λj=>by rcases u p j with e|e;exact h.kp e;exact e.1 rfl,
  λg y j=>by rcases u g j with e|e;exact h.kv g y e;exact e.2.1 y,
  λk j=>by rcases u k j with e|e;exact h.old k e;exact e.2.2⟩
theorem take_len(m:Mode)(s:ByteArray):(m.take s).len<=m.len:=by unfold Mode.take;split;{exact dr};rw[(oV (di m 2)).1];omega
def YS(p:Nat)(v:υ)(w:ω)(k:Nat):Prop:=k<w.heap.size/\k≠p/\v.ownBlock≠σ k
structure Fq (p:Nat)(v v':υ)(w w':ω):Prop where
 keeps:aX (YS p v w) w w'
 own:∀g,v'.ownBlock=σ g->v.ownBlock=σ g\/w.heap.size<=g
structure LA (c x:fQ):Prop where
 deep:x.deep=c.deep
 word:x.word=c.word
 names:x.names=c.names
 kinds:x.kinds=c.kinds
 rows:x.rows=c.rows
 eQ:x.eQ=c.eQ
 form:(∃s,x.Jp=θ s)/\(∃i,x.Jq=ι κ i)/\(∃s,x.Jr=θ s)/\(∃i,x.Js=ι κ i)/\∃i,x.cond=ι κ i
structure Rd (o:ω×υ)(w:ω)(p:Nat)(c:fQ)(v:υ)(m:Mode)(n:Nat):Prop where
 ex:∃x ns,ib (YS p v w) w p x m ns/\LA c x/\x.nodes=v/\ns.length=n
 fr:Fq p o.2 v o.1 w
 lo:p<o.1.heap.size
section
variable {o:ω×υ} {w w' w'':ω} {p:Nat} {c x x':fQ} {v v' v'':υ} {m m':Mode} {n:Nat} {ns:List kB}
theorem Fq.trans(a:Fq p v v' w w')(b:Fq p v' v'' w' w''):Fq p v v'' w w'':=
 ⟨a.keeps.trans (b.keeps.mono λk d=>⟨ai d.1 a.keeps.size,d.2.1,λe=>(a.own k e).elim d.2.2 (by have:=d.1;omega)⟩),λg e=>(b.own g e).elim (a.own g) λh=>.inr (ag a.keeps.size h)⟩
theorem Fq.refl(p:Nat)(v:υ)(w:ω):Fq p v v w w:=⟨aX.refl _ _,λ_ d=>.inl d⟩
theorem Fq.below(h:δ w.heap.size w w'):Fq p v v w w':=⟨⟨h.os,h.tape,h.output,h.size,λk e=>h.block k e.1⟩,λ_ d=>.inl d⟩
theorem LA.rest(h:LA c x)(d:Rest x x'):LA c x':=
 ⟨d.deep.trans h.deep,d.word.trans h.word,d.names.trans h.names,d.kinds.trans h.kinds,d.rows.trans h.rows,d.eQ.trans h.eQ,by rw[d.Jp,d.Jq,d.Jr,d.Js,d.cond];exact h.form⟩
theorem Rd.GA{c':fQ}(h:Rd o w p c v m n)(y:LA c' x')(q:ib (YS p v w) w' p x' m' ns)(k:aX (YS p v w) w w'):Rd o w' p c' x'.nodes m' ns.length/\Fq p v x'.nodes w w':=by
 have fr:Fq p v x'.nodes w w':=⟨k,λg d=>by
  by_cases r:w.heap.size<=g
  . exact .inr r
  . exact .inl (gJ λu=>q.kv g d ⟨by omega,λj=>q.apart (j ▸ d),u⟩)⟩
 have A:=q.pen.lt;have C:=q.p0;exact⟨⟨⟨x',ns,q.more ⟨by omega,by omega,λd=>q.kv 0 d q.k0⟩ (λk e=>.inr ⟨e.2.1,e.2.2,e.1⟩),y,rfl,rfl⟩,h.fr.trans fr,h.lo⟩,fr⟩
theorem Rd.step(h:Rd o w p c v m n)(d:LA c x)(e:Rest x x')(q:ib (YS p v w) w' p x' m' ns)(k:aX (YS p v w) w w'):Rd o w' p c x'.nodes m' ns.length/\Fq p v x'.nodes w w':=h.GA (d.rest e) q k
theorem Rd.is(h:Rd o w p c v m n)(t:ByteArray):Calls prog 35 #[π (σ (Ad p 0)),θ t] w λd w'=>d=τ (.bool (m.is t))/\w=w':=by obtain⟨x,ns,q,_⟩:=h.ex;exact agH q t
theorem Rd.next(h:Rd o w p c v m n)(j:∀t A,m=.live t A->t.k.ends=false):Calls prog 22 #[π (σ (Ad p 0))] w λd w'=>
 d=τ (.tuple #[])/\Rd o w' p c v m.next n/\Fq p v v w w':=by obtain⟨x,ns,q,r,rfl,rfl⟩:=h.ex;refine(F3 q j).mono ?_;rintro d w' ⟨rfl,x',u,y,e,k⟩;exact⟨rfl,e ▸ h.step r y u k⟩
theorem Rd.fail(h:Rd o w p c v m n)(d b:Nat)(u:d≠0)(r:Hid (m.alive->b=m.place)):Calls prog 24 #[π (σ (Ad p 0)),ι κ d,ι κ b] w λe w'=>
 e=τ (.tuple #[])/\Rd o w' p c v (m.wrong d) n/\Fq p v v w w':=by
 obtain⟨x,ns,q,y,rfl,rfl⟩:=h.ex;refine(F4 q d b u).mono ?_;rintro e w' ⟨rfl,x',C,D,j,k⟩;have A:m.wrong d=m.fail d b:=by
  cases m with
  |dead _ _=>rfl
  |live t E=>rw[r.J trivial];rfl
 rw[A];exact⟨rfl,j ▸ h.step y D C k⟩
theorem Rd.take(h:Rd o w p c v m n)(t:ByteArray):Calls prog 40 #[π (σ (Ad p 0)),θ t] w λd w'=>
 ∃i:Nat,d=τ (ι κ i)/\Rd o w' p c v (m.take t) n/\Fq p v v w w':=by obtain⟨x,ns,q,j,rfl,rfl⟩:=h.ex;refine(aeg q t).mono ?_;rintro d w' ⟨rfl,x',r,u,e,k⟩;exact⟨_,rfl,e ▸ h.step j u r k⟩
theorem Rd.name(h:Rd o w p c v m n):Calls prog 37 #[π (σ (Ad p 0))] w λd w'=>
 ∃(s:ByteArray) (i:Nat),d=τ (χ #[θ s,ι κ i])/\Rd o w' p c v m.name.2 n/\Fq p v v w w':=by obtain⟨x,ns,q,j,rfl,rfl⟩:=h.ex;refine(aei q).mono ?_;rintro d w' ⟨rfl,x',r,u,e,k⟩;exact⟨_,_,rfl,e ▸ h.step j u r k⟩
theorem Rd.node(h:Rd o w p c v m n)(e:kB)(j:n<=1000):Calls prog 101 #[π (σ (Ad p 0)),ZI e] w λd w'=>
 ∃v',d=τ (ι κ n)/\Rd o w' p c v' m (n+1)/\Fq p v v' w w':=by obtain⟨x,ns,q,r,rfl,rfl⟩:=h.ex;refine(Ur q e j).mono ?_;rintro d w' ⟨rfl,x',u,y,k⟩;have:=h.step r y u k;rw[az]at this;exact⟨_,rfl,this⟩
theorem Rd.two(h:Rd o w p c v m n)(d:ByteArray)(e a b:Nat)(r:a<n)(u:n<=1000):Calls prog 73 #[π (σ (Ad p 0)),θ d,ι κ e,ι κ a,ι κ b] w λj w'=>
 ∃v',j=τ (ι κ n)/\Rd o w' p c v' m (n+1)/\Fq p v v' w w':=by obtain⟨x,ns,q,y,rfl,rfl⟩:=h.ex;refine(ais q d e a b _ (af r) u).mono ?_;rintro j w' ⟨rfl,x',A,C,k⟩;have:=h.step y C A k;rw[az]at this;exact⟨_,rfl,this⟩
theorem Rd.NC(h:Rd o w p c v m n)(r:c.deep=8):Calls prog 134 #[π (σ (Ad p 0))] w λe w'=>
 e=τ (.bool false)/\Rd o w' p c v (m.wrong 3) n/\Fq p v v w w':=by obtain⟨x,ns,q,d,rfl,rfl⟩:=h.ex;refine(NB q (d.deep.trans r)).mono ?_;rintro e w' ⟨rfl,x',u,y,j,k⟩;exact⟨rfl,j ▸ h.step d y u k⟩
theorem Rd.down(h:Rd o w p c v m n)(y:∀t D,m=.live t D->t.k.ends=false)(u:c.deep<8):Calls prog 134 #[π (σ (Ad p 0))] w λe w'=>
 e=τ (.bool true)/\Rd o w' p { c with deep:=c.deep+1 } v m.next n/\Fq p v v w w':=by obtain⟨x,ns,q,d,rfl,rfl⟩:=h.ex;refine(ael q y (d.deep.symm ▸ u)).mono ?_;rintro e w' ⟨rfl,x',A,C,r,k⟩;have j:LA { c with deep:=c.deep+1 } { x with deep:=x.deep+1 }:=⟨bn (·+1) d.deep,d.word,d.names,d.kinds,d.rows,d.eQ,d.form⟩;exact⟨rfl,r ▸ h.GA (j.rest C) A k⟩
theorem Rd.live(h:Rd o w p c v m n){t:ByteArray}(i:m.is t=true):m.alive/\(∀t d,m=.live t d->t.k.ends=false)/\m.next.len+1=m.len:=by obtain⟨x,ns,q,_⟩:=h.ex;exact(Us q.mode i).2.2
theorem Rd.cells(h:Rd o w p c v m n):∃(k:Nat) (t:ByteArray) (i:Nat) (e:Int),w.cell? (Ad p 2)=σ (ι .u8 k)/\w.cell? (Ad p 3)=σ (θ t)/\w.cell? (Ad p 4)=σ (ι κ i)/\w.cell? (Ad p 5)=σ (ι κ e)/\Hid (m.alive->i=m.place):=by
 obtain⟨x,ns,q,_⟩:=h.ex;refine⟨_,_,_,_,q.pen.cell 2,q.pen.cell 3,q.pen.cell 4,q.pen.cell 5,ak λd=>?_⟩;have:=q.mode
 cases m with
 |dead _ _=>exact d.elim
 |live t j=>exact this.2.2.1
theorem Rd.amx(h:Rd o w p c v m n):lenOf ((w.cell? (Ad p 19)).getD undef)=n:=by obtain⟨x,ns,q,_,_,rfl⟩:=h.ex;rw[q.pen.cell 19];show lenOf x.nodes=ns.length;rcases q.own.2 with⟨e,d⟩|⟨g,cap,_,j,_⟩;{rw[e,d];rfl};rw[j];rfl
theorem Rd.below(h:Rd o w p c v m n)(b:δ w.heap.size w w'):Rd o w' p c v m n:=by obtain⟨x,ns,q,e,rfl,rfl⟩:=h.ex;exact(h.GA e (q.below b) ⟨b.os,b.tape,b.output,b.size,λk d=>b.block k d.1⟩).1
theorem Rd.drew(h:Rd o w p c v m n):Rd o w.drew p c v m n/\Fq p v v w w.drew:=by obtain⟨x,ns,q,d,rfl,rfl⟩:=h.ex;exact h.GA d q.drew (aX.refl _ _).drew
theorem Rd.lt(h:Rd o w p c v m n):p<w.heap.size:=by obtain⟨x,ns,q,_⟩:=h.ex;exact q.pen.lt
end
theorem od{α:Type}{one:Mode->α×Mode}(h:∀m,(one m).2.len<=m.len)(m:Mode):(dc one m).2.len<=m.len:=by
 have more:∀(f:Nat) (l:List α) (q:Mode),(jT one f l q).2.len<=q.len:=by
  intro f
  induction f with
  |zero=>intro l q;exact ae _
  |succ f d=>
    intro l q;rw[jT];split
    . exact ag (d _ _) (ag (h q.next) dr)
    . exact ae _
 exact ag (more _ _ _) (h m)
theorem DL(m:Mode):(jK m).2.len<=m.len:=od dI m
theorem zM(m:Mode):(jk m).2.len<=m.len:=by
 have d:m.next.len<=m.len:=dr;have e:m.next.next.len<=m.next.len:=dr;have j:=(oV (di m 2)).1;have r:=(oV (di m.next 2)).1;unfold jk;repeat' split
 all_goals(simp only;omega)
theorem Cn(m:Mode):(qJ m).2.len<=m.len:=by have d:m.next.len<=m.len:=dr;unfold qJ;split;{exact d};split;{exact d};exact take_len m Ui
theorem uy(m:Mode):(ek m).2.len<=m.len:=by unfold ek;show(if m.name.2.is Uj then m.name.2.next else m.name.2).len<=m.len;split;{exact ag dr (dI m)};exact dI m
theorem Kn{f:Nat}{l:List uU}{m:Mode}{d:List uU×Mode}(h:mC (f+1) l m=d)(e:m.is dA=true):mC f (l++[(j6 m).1]) (j6 m).2=d:=by rw[mC,aF e]at h;exact h
theorem Ko{f:Nat}{l:List uU}{m:Mode}(d:m.is dA=false):mC f l m=(l,m):=by
 cases f with
 |zero=>rfl
 |succ f=>rw[mC,aE (by rw[d];decide)]
theorem yx(m:Mode):(j6 m).2.len<=(m.take dA).len:=ag (take_len _ _) (od zM _)
theorem EK{f:Nat}{l:List gx}{m:Mode}{d:List gx×Mode}(h:gN (f+1) l m=d)(e:m.is QO=true):gN f (l++[(dp m.next).1]) (dp m.next).2=d:=by rw[gN,aF e]at h;exact h
theorem yz{f:Nat}{l:List gx}{m:Mode}(d:m.is QO=false):gN f l m=(l,m):=by
 cases f with
 |zero=>rfl
 |succ f=>rw[gN,aE (by rw[d];decide)]
theorem asB(a:Int)(w:ω):Calls prog 252 #[ι κ a] w λd w'=>d=τ (.bool false)/\w'=w:=by go_in;go_wp2_with fail;go_ret;exact⟨rfl,rfl⟩
theorem asC(s:ByteArray)(w:ω):Calls prog 253 #[θ s] w λd w'=>d=τ (.bool false)/\w'=w:=by
 have e:(s.toList != s.toList)=false:=by simp
 go_in;go_wp2_with fail;go_ret;exact⟨rfl,rfl⟩
def NP(a b:Int):Int:=if a<b then -1 else if b<a then 1 else 0
theorem Ky:∀x d:List UInt8,EI x d=if Op.bytesLess x d then -1 else if x==d then 0 else 1
 |[],[]=>rfl
 |[],_::_=>rfl
 |_::_,[]=>rfl
 |a::x,b::d=>by
   have e:=Ky x d;unfold EI Op.bytesLess;by_cases h:a=b
   . subst h
     rw[aF rfl,e];simp
   . rw[aE h]
     by_cases g:a<b
     . simp[g]
     . simp[g,h]
theorem ZT(a b:Int)(w:ω):Calls prog 242 #[ι κ a,ι κ b] w λj w'=>j=τ (ι κ (NP a b))/\w'=w:=by
 have e:=ak (show(a<b->NP a b=-1)/\(¬a<b->b<a->NP a b=1)/\(¬a<b->¬b<a->NP a b=0)from⟨λh=>aF h,λh g=>(aE h).trans (aF g),λh g=>(aE h).trans (aE g)⟩);rcases oB (a<b)with h|h<;>rcases oB (b<a)with g|g
 all_goals((first|have d:=ak (e.J.1 h)|have d:=ak (e.J.2.1 h g)|have d:=ak (e.J.2.2 h g));go_in;go_wp2_with(first|(go_at_call 252;refine(asB _ _).mono ?_;rintro j w' ⟨rfl,rfl⟩));go_ret;exact⟨by rw[d.J];rfl,rfl⟩)
theorem ZU(a b:ByteArray)(w:ω):Calls prog 243 #[θ a,θ b] w λd w'=>d=τ (ι κ (EI a.toList b.toList))/\w'=w:=by rw[Ky];cases h:Op.bytesLess a.toList b.toList<;>cases g:a.toList==b.toList;all_goals(go_in;go_wp2_with(first|(go_at_call 253;refine(asC _ _).mono ?_;rintro d w' ⟨rfl,rfl⟩));go_ret;exact⟨rfl,rfl⟩)
def orI(a b:Int):Int:=if a=0 then b else a
theorem aiF(a b:Int)(g cap:Nat)(w:ω)(F:w.cell? ⟨g,0,ν⟩=σ (ι κ a))(G:w.cell? ⟨g,1,ν⟩=σ (ι κ b)):Calls prog 241 #[ψ (σ ⟨g,0,ν⟩) 2 cap] w λE w'=>E=τ (ι κ (orI a b))/\δ w.heap.size w w':=by
 go_in;go_wp2_with fail;go_loopw[5,8] (λ_ c wr=>∃i:Nat,i<=2/\c=ι κ i/\wr=w/\Hid ((1<=i->a=0)/\(2<=i->b=0))) (λ_ c _=>2 - (intOf c).toNat);case atStart=>exact⟨0,by omega,rfl,rfl,ak ⟨λh=>by omega,λh=>by omega⟩⟩
 case round=>obtain⟨i,H,rfl,rfl,r⟩:=hrel;have D:i=0\/i=1\/i=2:=(by omega);rcases D with rfl|rfl|rfl;{by_cases e:a=0;{have d:=ak e;have A:(a != 0)=false:=(by rw[e];rfl);clear e;go_wp2_with fail;exact⟨⟨1,by omega,by go_num,by first|rfl|trivial,ak ⟨λ_=>d.J,λh=>by omega⟩⟩,by simp[intOf]⟩};have d:=ak (show orI a b=a from aE e);have A:(a != 0)=true:=(by rw[jA];exact e);clear e;go_wp2_with fail;go_ret;exact⟨by rw[d.J];rfl,ah _ _⟩};{have u:=ak (r.J.1 (ae _));by_cases j:b=0;{have y:=ak j;have C:(b != 0)=false:=(by rw[j];rfl);clear j;go_wp2_with fail;exact⟨⟨2,by omega,by go_num,by first|rfl|trivial,ak ⟨λ_=>u.J,λ_=>y.J⟩⟩,by simp[intOf]⟩};have d:=ak (show orI a b=b from aF u.J);have C:(b != 0)=true:=(by rw[jA];exact j);clear j;go_wp2_with fail;go_ret;exact⟨by rw[d.J];rfl,ah _ _⟩};have d:=ak (show orI a b=0 from(aF (r.J.1 (by omega))).trans (r.J.2 (by omega)));go_wp2_with fail;go_ret;exact⟨by rw[d.J];rfl,ah _ _⟩
def NQ(l r:aD):Int:=orI (NP l.n r.n) (EI l.s.toList r.s.toList)
theorem aR{w1:ω}{a b:υ}{t:TypeId}(h:w1.heap[u]?=σ (ξ #[a,b] t (0,0))):w1.cell? ⟨u,0,ν⟩=σ a/\w1.cell? ⟨u,1,ν⟩=σ b:=by simp[World.cell?,h]
theorem kL{w1:ω}{a b c:υ}{t:TypeId}(h:w1.heap[u]?=σ (ξ #[a,b,c] t (0,0))):w1.cell? ⟨u,0,ν⟩=σ a/\w1.cell? ⟨u,1,ν⟩=σ b/\w1.cell? ⟨u,2,ν⟩=σ c:=by simp[World.cell?,h]
abbrev dj:=aD ⊕ Nat
def j7:dj->List υ
 |.inl c=>[.bool c.null,ι κ c.n,θ c.s,ι κ 0,ι κ 0]
 |.inr p=>[.bool false,ι κ 0,θ ⟨#[]⟩,ι κ 9,ι κ p]
def yF(o:dj):υ:=.agg (j7 o).toArray
theorem rJ(o:dj):(j7 o).length=5:=by cases o<;>rfl
theorem jw(o:dj):∃x e z d p,j7 o=[.bool x,ι κ e,θ z,ι κ d,ι κ p]/\yF o=χ #[.bool x,ι κ e,θ z,ι κ d,ι κ p]:=by cases o<;>exact⟨_,_,_,_,_,rfl,rfl⟩
def Kz:dj:=.inl ⟨false,0,⟨#[]⟩⟩
def rowOf(b:List (List aD))(r:Nat):List aD:=b.map λcs=>cs.getD r fD
def wU(b:List (List aD))(rows:List Nat):Prop:=∀r∈rows,∀cs∈b,r<cs.length
def dJ(a:ω)(lo:Nat)(fv:υ)(ok:List aD->Prop)(F:List aD->dj):Prop:=
 ∃n caps,fv=.func (.func n) #[] caps/\Enters n/\∀b,ft lo a.heap.size a b->∀bv cs rv rows,eC b bv cs->gw b rv rows->wU cs rows->rows.length<=64->(∀r∈rows,ok (rowOf cs r))->
   Calls prog n (#[bv,rv]++caps) b λr b'=>∃v,r=τ v/\b'.ownsRow b.heap.size 298 5 v rows.length ((rows.map λr=>F (rowOf cs r)).flatMap j7)/\δ b.heap.size b b'
def Z2(a:ω)(lo:Nat)(fv:υ)(ok:List aD->Prop)(G:List aD->aD):Prop:=
 ∃n caps,fv=.func (.func n) #[] caps/\Enters n/\∀b,ft lo a.heap.size a b->∀bv cs (r:Nat),eC b bv cs->wU cs [r]->ok (rowOf cs r)->
   Calls prog n (#[bv,ι κ r]++caps) b λe b'=>e=τ (kA (G (rowOf cs r)))/\δ b.heap.size b b'
theorem NU{l:List dj}{i:Nat}(u:i<l.length)(o:dj){a b c:υ}(h:j7 o=[a,b,c,y,e]):(((((l.flatMap j7).set (i*5) a).set (i*5+1) b).set (i*5+2) c).set (i*5+3) y).set (i*5+4) e=(l.set i o).flatMap j7:=by have j:=rG j7 5 rJ l;refine ad8 rJ u (λd A=>?_) (λd A=>?_);{have r:d=0\/d=1\/d=2\/d=3\/d=4:=(by omega);generalize l.flatMap j7=xs at j;rw[h];rcases r with rfl|rfl|rfl|rfl|rfl<;>simp[List.getElem?_set]<;>omega};generalize l.flatMap j7=xs at j;rw[bH,aE (by omega),bH,aE (by omega),bH,aE (by omega),bH,aE (by omega),bH,aE (by omega)]
theorem Z3{l:List dj}{i:Nat}(j:l[i]?=σ Kz)(c:aD):(((l.flatMap j7).set (i*5) (.bool c.null)).set (i*5+1) (ι κ c.n)).set (i*5+2) (θ c.s)=(l.set i (.inl c)).flatMap j7:=by rw[<- NU (aj.mp j).1 (.inl c) rfl];have h:=dy j7 5 rJ l j (j:=3) (by decide);have e:=dy j7 5 rJ l j (j:=4) (by decide);generalize l.flatMap j7=xs at h e;have y:=(aj.mp h).1;have u:=(aj.mp e).1;apply cB;intro r;by_cases d:i*5+4=r;{subst d;rw[bH,aE (by omega),bH,aE (by omega),bH,aE (by omega),bH,aF rfl,e,aF (by simpa using u)];rfl};rw[bH (i:=i*5+4),aE d];by_cases d:i*5+3=r;{subst d;rw[bH,aE (by omega),bH,aE (by omega),bH,aE (by omega),bH,aF rfl,h,aF (by simpa using y)];rfl};rw[bH (i:=i*5+3),aE d]
theorem jU{w:ω}{g cap n:Nat}{t:TypeId}{l:List dj}{i:Nat}{o:dj}{a b c:υ}(h:w.ownsRow u t 5 (ψ (σ (Ad g 0)) n cap) n (l.flatMap j7))(j:l[i]?=σ o)(A:j7 o=[a,b,c,y,e]):(w.cell? (Ad g (i*5))=σ a/\w.cell? (Ad g (i*5+1))=σ b/\w.cell? (Ad g (i*5+2))=σ c/\w.cell? (Ad g (i*5+3))=σ y/\w.cell? (Ad g (i*5+4))=σ e)/\∀d,w.frozen? (Ad g d)=false:=by
 have E:=rG j7 5 rJ l;have D:l.length=n:=by have:=h.1;omega
 have C:=(aj.mp j).1;have k:∀d (r:d<5),w.cell? (Ad g (i*5+d))=[a,b,c,y,e][d]?:=λd r=>by
  rw[h.cellAt _ (by omega),<- A];exact dy j7 5 rJ l j r
 exact⟨⟨k 0 (by decide),k 1 (by decide),k 2 (by decide),k 3 (by decide),k 4 (by decide)⟩,λd=>h.frozenAt d⟩
def EP(f:Nat->dj)(rows:List Nat)(i:Nat):List dj:=(rows.take i).map f++List.replicate (rows.length - i) Kz
theorem NV{f:Nat->dj}{i:Nat}(h:i<r.length):(EP f r i)[i]?=σ Kz:=by
 unfold EP;have d:((r.take i).map f).length=i:=by simp;omega
 rw[bp (by omega),df,aF (by omega)]
theorem V4{f:Nat->dj}{i:Nat}(h:r[i]?=σ u):(EP f r i).set i (f u)=EP f r (i+1):=by
 obtain⟨e,j⟩:=aj.mp h;unfold EP;have d:((r.take i).map f).length=i:=by simp;omega
 rw[show r.length - i=(r.length - (i+1))+1 by omega,gM,ef _ _ (by omega),d,da,dL,de,h];simp
theorem JC(d b:Int)(w:ω):Calls prog 27 #[χ #[ι κ d,ι κ b]] w λe w'=>e=τ (.bool (d != 0))/\δ w.heap.size w w':=by go_in;go_wp2_with fail;go_ret;exact⟨rfl,(ah _ _).alloc (ae _) _⟩
structure Ow (b w:ω)(va:Option Addr)(cap n:Nat)(l:List dj):Prop where
 own:w.ownsRow b.heap.size 298 5 (ψ va n cap) n (l.flatMap j7)
 sX:δ b.heap.size b w
abbrev NW(w:World)(g i:Nat)(x:Bool)(y:Int)(z:ByteArray)(e p:Int):World:=((((w.setCell (Ad g i) (.bool x)).setCell (Ad g (i+1)) (.int .i64 y)).setCell (Ad g (i+2)) (.string z)).setCell (Ad g (i+3)) (.int .i64 e)).setCell (Ad g (i+4)) (.int .i64 p)
section
variable {b w w':ω} {va:Option Addr} {cap n g i:Nat} {l:List dj} {o:dj}
theorem Ow.below(h:Ow b w va cap n l)(d:δ w.heap.size w w'):Ow b w' va cap n l:=⟨cq h.own d,h.sX.trans (d.mono h.sX.size)⟩
theorem Ow.alloc(h:Ow b w va cap n l)(o:Obj):Ow b (w.alloc o) va cap n l:=h.below ((ah _ _).alloc (ae _) _)
theorem Ow.put(h:Ow b w (σ (Ad g 0)) cap n l)(r:i<n)(o:dj){x:Bool}{y:Int}{z:ByteArray}{e p:Int}(j:j7 o=[.bool x,ι κ y,θ z,ι κ e,ι κ p]):Ow b (NW w g (i*5) x y z e p) (σ (Ad g 0)) cap n (l.set i o):=by
 have A:=rG j7 5 rJ l;have u:l.length=n:=by have:=h.own.1;omega
 have d:b.heap.size<=g:=(cu h.own).elim λ_ ⟨_,e,k,_⟩=>by cases e;obtain⟨_,e,k⟩:=k (by omega);cases e;exact k
 refine⟨?_,((((h.sX.setCell d _).setCell d _).setCell d _).setCell d _).setCell d _⟩;rw[<- NU (by omega) o j];exact(((((h.own.stored _ _).1.stored _ _).1.stored _ _).1.stored _ _).1.stored _ _).1
theorem aiO{z m:Nat}{t:TypeId}{v:υ}{xs:List υ}(h:w.ownsRow u t z v m xs)(d:v.ownBlock≠σ g){x:Bool}{j:Int}{s:ByteArray}{e p:Int}:(NW w g i x j s e p).ownsRow u t z v m xs:=
 lr (lr (lr (lr (lr h d _) d _) d _) d _) d _
end
theorem Tryz.Z4:(prog.info? 298).map (λi=>(i.zero,i.size,i.bytes))=σ (σ (yF Kz),5,48):=by kernel_rfl
theorem aiP{a b:ω}{lo q:Nat}{t:TypeId}{ok:List aD->Prop}{j:List aD->aD}(hc:Z2 a lo y ok j)(hk:ft lo a.heap.size a b)(K:b.heap[q]?=σ (ξ #[y] t (0,0))){cs:List (List aD)}(hb:eC b e cs)(M:gw b I r)(oR:wU cs r)(hl:r.length<=64)(mQ:∀d∈r,ok (rowOf cs d)) :
 Calls prog 152 #[e,I,π (σ (Ad q 0))] b λd F=>∃v,d=τ v/\F.ownsRow b.heap.size 298 5 v r.length ((r.map λd=>.inl (j (rowOf cs d))).flatMap j7)/\δ b.heap.size b F:=by
 obtain⟨n,aa,rfl,hE,hC⟩:=hc;obtain⟨i0,yG,lC,lI,kQ⟩:=iC Tryz.Z4;obtain⟨ra,rK,R⟩:=bu.slice M;subst R;have T:=ak hC;have V:=ak K;have U:=ak mQ;have W:=aw K;unfold Enters at hE;go_in;go_wp2_with(at_make;refine dV _ rfl _ _ 296 rfl b.heap.size 298 i0 _ 5 underlying296 yG lC lI _ _ _ _ r.length rfl rfl rfl rfl (by rw[kQ];omega) (by unfold maxLen;omega) (by simp) ?_;intro w1 G bY);rw[zL rJ Kz (yF Kz) rfl (by decide)]at G;have cx:δ b.heap.size b w1:=(ah _ _).grown bY (ae _) (by simp);go_wp2_with fail;go_loopw[14] (λc wr=>∃i:Nat,i<=r.length/\c=ι κ i/\Hid (wr.ownsRow b.heap.size 298 5 (ψ (σ (Ad b.heap.size 0)) r.length r.length) r.length ((EP (λd=>.inl (j (rowOf cs d))) r i).flatMap j7))/\Hid (δ b.heap.size b wr)) (λc _=>r.length - (intOf c).toNat);case atStart=>exact⟨0,aK _,rfl,ak (by simpa[EP]using G),cx⟩
 case round=>obtain⟨i,hi,rfl,E,u⟩:=hrel;by_cases A:i<r.length;{have ju:(i:Int)<r.length:=(by omega);obtain⟨d,D⟩:∃d,r[i]?=σ d:=⟨r[i],af A⟩;obtain⟨g,o,cap,he,c0⟩:=gw.get (bu.below M u.J (ae _)) D;cases he;have Q:=aA D;have Z:=T.J wr (hk.below u.J) e cs d (hb.below u.J (ae _)) (λx hx=>by cases bj.mp hx;exact oR d Q) (U.J d Q);have FF:=cell0 ((u.J.block q W).trans V.J) 0;have X:=ak D;go_wp2_with fail;refine Z.mono ?_;rintro ab w2 ⟨rfl,H⟩;have P:=cq E.J H;obtain⟨⟨d0,d1,d2,d3,d4⟩,fz⟩:=jU P (NV A) rfl;have O:=(((P.stored (i*5) (.bool (j (rowOf cs d)).null)).1.stored (i*5+1) (ι κ (j (rowOf cs d)).n)).1.stored (i*5+2) (θ (j (rowOf cs d)).s)).1;rw[Z3 (NV A),V4 (f:=λd=>.inl (j (rowOf cs d))) X.J]at O;have jl:=u.J.trans (H.mono u.J.size);unfold kA;go_wp2_with fail;go_roundw;(case rel=>exact⟨i+1,by omega,by go_num,O,ak (((jl.setCell (ae _) _).setCell (ae _) _).setCell (ae _) _)⟩);case measure=>simp[intOf];omega};obtain rfl:i=r.length:=(by omega);have C:=E.J;unfold EP at C;rw[da,dP,bQ,eV]at C;have Y:=ak C;go_wp2_with fail;go_ret;exact⟨_,rfl,Y.J,u.J⟩
def vG(a:ω)(lo:Nat)(fv:υ)(ok:aD->Prop)(W:aD->dj):Prop:=
 ∃n caps,fv=.func (.func n) #[] caps/\Enters n/\∀b,ft lo a.heap.size a b->∀c,ok c->Calls prog n (#[kA c]++caps) b λe b'=>e=τ (yF (W c))/\δ b.heap.size b b'
def wV(a:ω)(lo:Nat)(fv:υ)(ok:aD->aD->Prop)(W:aD->aD->dj):Prop:=
 ∃n caps,fv=.func (.func n) #[] caps/\Enters n/\∀b,ft lo a.heap.size a b->∀c d,ok c d->Calls prog n (#[kA c,kA d]++caps) b λe b'=>e=τ (yF (W c d))/\δ b.heap.size b b'
def sD(W:aD->dj):dj->dj
 |.inl c=>W c
 |.inr e=>.inr e
def mid(f g:Nat->dj)(rows:List Nat)(i:Nat):List dj:=(rows.take i).map f++(rows.drop i).map g
theorem GZ{f g:Nat->dj}{i:Nat}(h:r[i]?=σ u):(mid f g r i)[i]?=σ (g u):=by obtain⟨d,e⟩:=aj.mp h;unfold mid;rw[bp (by simp;omega)];simp[show i - min i r.length=0 by omega,d,e]
theorem LO{f g:Nat->dj}{i:Nat}(h:r[i]?=σ u):(mid f g r i).set i (f u)=mid f g r (i+1):=by
 obtain⟨d,j⟩:=aj.mp h;unfold mid;have e:((r.take i).map f).length=i:=by simp;omega
 rw[cA d,gp,ef _ _ (by omega),e,da,dL,de,h];simp
theorem NZ{f g:Nat->dj}{i:Nat}(h:r[i]?=σ u)(e:f u=g u):mid f g r i=mid f g r (i+1):=by rw[<- LO h,e];have:=GZ (f:=f) (g:=g) h;apply cB;intro j;rw[bH];by_cases d:i=j;{subst d;rw[aF rfl,this,aF (aj.mp this).1]};rw[aE d]
theorem aiQ{a b:ω}{lo q:Nat}{t:TypeId}{ok:List aD->Prop}{aa:aD->Prop}{A:List aD->dj}{C:aD->dj}(hc:dJ a lo y ok A)(hw:vG a lo e aa C)(vH:∀row,ok row->∀c,A row=.inl c->aa c)(Z:ft lo a.heap.size a b)(P:b.heap[q]?=σ (ξ #[y] t (0,0)))(Q:b.heap[u]?=σ (ξ #[e] j (0,0))){cs:List (List aD)}(hb:eC b I cs)(hr:gw b T r)(oR:wU cs r)(hl:r.length<=64)(mQ:∀d∈r,ok (rowOf cs d)) :
 Calls prog 199 #[I,T,π (σ ⟨q,0,ν⟩),π (σ ⟨u,0,ν⟩)] b λd U=>∃v,d=τ v/\U.ownsRow b.heap.size 298 5 v r.length ((r.map λd=>sD C (A (rowOf cs d))).flatMap j7)/\δ b.heap.size b U:=by
 obtain⟨n,ap,rfl,hE,hC⟩:=hc;obtain⟨n2,jN,rfl,al,ad⟩:=hw;have HC:=hC b Z I cs T r hb hr oR hl mQ;have HW:=ak ad;have JD:=ak (λd (h:d∈r)=>vH _ (mQ d h));have ab:=ak Q;have c0:=cell0 P 0;simp at c0;have Je:=aw Q;unfold Enters at hE al;go_in;go_wp2_with fail;refine HC.mono ?_;rintro K w1 ⟨v,rfl,V,cx⟩;obtain⟨va,X,rfl,Rr,LP⟩:=cu V;have Qq:Hid (Ow b w1 va X r.length (mid (λd=>sD C (A (rowOf cs d))) (λd=>A (rowOf cs d)) r 0)):=ak ⟨by simpa[mid]using V,cx⟩;have ac:=ak Rr;go_wp2_with fail;go_loopw[16] (λc wr=>∃i:Nat,i<=r.length/\c=ι κ i/\Hid (Ow b wr va X r.length (mid (λd=>sD C (A (rowOf cs d))) (λd=>A (rowOf cs d)) r i))) (λc _=>r.length - (intOf c).toNat);case atStart=>exact⟨0,aK _,rfl,Qq⟩
 case round=>
  obtain⟨i,hi,rfl,F⟩:=hrel;by_cases W:i<r.length
  .have ju:(i:Int)<r.length:=by omega
   obtain⟨g,rfl,hg⟩:=ac.J (by omega);obtain⟨d,E⟩:∃d,r[i]?=σ d:=⟨r[i],af W⟩;have HM:=ak (aA E);have NY:=ak E
   cases D:A (rowOf cs d)with
   |inr K=>
     obtain⟨⟨d0,d1,d2,d3,d4⟩,-⟩:=jU F.J.own (GZ E) (by simp only[D];rfl);have O:=ak (NZ (f:=λd=>sD C (A (rowOf cs d))) (g:=λd=>A (rowOf cs d)) E (by simp only[D];rfl));go_wp2_with fail;refine(JC _ _ _).mono ?_;rintro K w2 ⟨rfl,H⟩;have G:=(F.J.alloc _).below H;go_wp2_with fail;go_roundw
     case rel=>exact⟨i+1,by omega,by go_num,ak (by rw[<- O.J];exact G)⟩
     case measure=>simp[intOf];omega
   |inl c=>
     obtain⟨⟨d0,d1,d2,d3,d4⟩,-⟩:=jU F.J.own (GZ E) (by simp only[D];rfl);have O:=ak (LO (f:=λd=>sD C (A (rowOf cs d))) (g:=λd=>A (rowOf cs d)) E);have HF:=ak (JD.J d HM.J c D);have HE:Hid (sD C (A (rowOf cs d))=C c):=ak (by rw[D];rfl);go_wp2_with fail;refine(JC _ _ _).mono ?_;rintro K w2 ⟨rfl,H⟩;have G:=(F.J.alloc _).below H;have M:=H.block wr.heap.size (by simp);rw[au]at M;have FF:=cell0 ((G.sX.block u Je).trans ab.J) 0;have a0:=cell0 M 0;have a1:=cell0 M 1;have a2:=cell0 M 2;have uz:=HW.J _ (Z.below G.sX) c HF.J;simp only[List.getElem?_toArray,List.getElem?_cons_zero,List.getElem?_cons_succ]at FF a0 a1 a2;unfold kA at uz;go_wp2_with fail;refine uz.mono ?_;rintro K w3 ⟨rfl,fI⟩;have Y:=G.below fI;obtain⟨x,aq,z,er,pl,am,an⟩:=jw (C c);rw[an];obtain⟨_,_,_,_,_,P,-⟩:=jw (A (rowOf cs d));obtain⟨⟨e0,e1,e2,e3,e4⟩,fz⟩:=jU Y.own (GZ NY.J) P;have je:=Y.put W (C c) am;rw[<- HE.J,O.J]at je;go_wp2_with fail;go_roundw
     case rel=>exact⟨i+1,by omega,by go_num,je⟩
     case measure=>simp[intOf];omega
  obtain rfl:i=r.length:=(by omega);have D:=F.J;unfold mid at D;rw[eV,fC,xM,bQ]at D;have R:=ak D;go_wp2_with fail;go_ret;exact⟨_,rfl,R.J.own,R.J.sX⟩
def vI(W:aD->aD->dj):dj->dj->dj
 |.inr e,_=>.inr e
 |.inl _,.inr e=>.inr e
 |.inl l,.inl r=>if l.null||r.null then .inl fD else W l r
structure Tw (b w1 w:ω)(va Qt:Option Addr)(c c2 n:Nat)(l l2:List dj):Prop where
 a:Ow b w va c n l
 b:w.ownsRow w1.heap.size 298 5 (ψ Qt n c2) n (l2.flatMap j7)
section
variable {b w1 w w':ω} {va Qt:Option Addr} {c c2 n g g2 i:Nat} {l l2:List dj}
theorem Tw.below(h:Tw b w1 w va Qt c c2 n l l2)(d:δ w.heap.size w w'):Tw b w1 w' va Qt c c2 n l l2:=⟨h.a.below d,cq h.b d⟩
theorem Tw.put(h:Tw b w1 w (σ (Ad g 0)) (σ (Ad g2 0)) c c2 n l l2)(j:g≠g2)(d:i<n)(o:dj){x:Bool}{y:Int}{z:ByteArray}{e p:Int}(r:j7 o=[.bool x,ι κ y,θ z,ι κ e,ι κ p]):Tw b w1 (NW w g (i*5) x y z e p) (σ (Ad g 0)) (σ (Ad g2 0)) c c2 n (l.set i o) l2:=
 ⟨h.a.put d o r,aiO h.b (by simp[Value.ownBlock];exactλe=>j e.symm)⟩
end
abbrev G2(x:Bool)(y:Int)(z:ByteArray)(e p:Int):Obj:=.cells #[.bool x,.int .i64 y,.string z,.int .i64 e,.int .i64 p] 298
theorem fX(w:ω)(o d:Obj):δ w.heap.size w ((w.alloc o).alloc d)/\((w.alloc o).alloc d).heap[w.heap.size+1]?=σ d/\((w.alloc o).alloc d).heap[w.heap.size]?=σ o:=by refine⟨((ah _ _).alloc (ae _) _).alloc (by simp) _,?_,(ct _ _ _ (by simp)).trans (au w _)⟩;have:=au (w.alloc o) d;simpa using this
theorem wW{w:ω}{q:Nat}{a b c:υ}{t:TypeId}(h:w.heap[q]?=σ (ξ #[a,b,c,y,e] t (0,0))):w.cell? (Ad q 0)=σ a/\w.cell? (Ad q 1)=σ b/\w.cell? (Ad q 2)=σ c/\w.cell? (Ad q 3)=σ y/\w.cell? (Ad q 4)=σ e:=by simp[World.cell?,h]
theorem aiS{a b:ω}{lo q q2 q3:Nat}{t t2 t3:TypeId}{fv gv wv:υ}{ok:List aD->Prop}{al:aD->aD->Prop}{j r:List aD->dj}{u:aD->aD->dj}(hc:dJ a lo fv ok j)(KB:dJ a lo gv ok r)(hw:wV a lo wv al u)(vH:∀row,ok row->∀c I,j row=.inl c->r row=.inl I->c.null=false->I.null=false->al c I)(hk:ft lo a.heap.size a b)(hq:b.heap[q]?=σ (ξ #[fv] t (0,0)))(Kl:b.heap[q2]?=σ (ξ #[gv] t2 (0,0)))(LQ:b.heap[q3]?=σ (ξ #[wv] t3 (0,0))){Q T:υ}{cs:List (List aD)}{e:List Nat}(hb:eC b Q cs)(hr:gw b T e)(oR:wU cs e)(hl:e.length<=64)(mQ:∀d∈e,ok (rowOf cs d)) :
 Calls prog 225 #[Q,T,π (σ (Ad q 0)),π (σ (Ad q2 0)),π (σ (Ad q3 0))] b λd b'=>∃v,d=τ v/\b'.ownsRow b.heap.size 298 5 v e.length ((e.map λd=>vI u (j (rowOf cs d)) (r (rowOf cs d))).flatMap j7)/\δ b.heap.size b b':=by
 obtain⟨n,bl,rfl,hE,hC⟩:=hc;obtain⟨n1,yH,rfl,bb,a9⟩:=KB;obtain⟨n2,jN,rfl,bc,ba⟩:=hw;have HC:=hC b hk Q cs T e hb hr oR hl mQ;have V5:=ak (λw (C:δ b.heap.size b w)=>a9 w (hk.below C) Q cs T e (hb.below C (ae _)) (bu.below hr C (ae _)) oR hl mQ);have HW:=ak ba;have JD:=ak (λd (h:d∈e)=>vH _ (mQ d h));have an:=ak Kl;have ap:=ak LQ;have Y:=cell0 hq 0;simp at Y;have Z5:=aw Kl;have Z6:=aw LQ;unfold Enters at hE bb bc;go_in;go_wp2_with fail;refine HC.mono ?_;rintro y w1 ⟨v,rfl,X,C⟩;obtain⟨va,dq,rfl,Rr,LP⟩:=cu X;have Z:=cell0 ((C.block q2 Z5).trans an.J) 0;simp at Z;have ax:=ak (V5.J w1 C);have ar:=ak Rr;go_wp2_with fail;refine ax.J.mono ?_;rintro y w2 ⟨v2,rfl,ER,cG⟩;obtain⟨Qt,KC,rfl,Z7,bi⟩:=cu ER;have aC:Hid (∀g g2,va=σ (Ad g 0)->Qt=σ (Ad g2 0)->0<e.length->g≠g2):=ak (λg g2 h1 h2 h0=>by
  have bo:g<w1.heap.size:=by
   have M:=X;rcases M.2 with⟨h,-⟩|⟨g',Ao,cur,h,-,Z8,-⟩
   . rw[h1]at h;cases h
   . rw[h1]at h;cases h;exact aw Z8
  obtain⟨g',h3,h4⟩:=Z7 h0;rw[h2]at h3
  cases h3
  omega)
 have aq:Hid (Tw b w1 w2 va Qt dq KC e.length (mid (λd=>vI u (j (rowOf cs d)) (r (rowOf cs d))) (λd=>j (rowOf cs d)) e 0) (e.map λd=>r (rowOf cs d))):=ak ⟨⟨by simpa[mid]using cq X cG,C.trans (cG.mono C.size)⟩,ER⟩;have av:=ak Z7;go_wp2_with fail;go_loopw[21] (λc wr=>∃i:Nat,i<=e.length/\c=ι κ i/\Hid (Tw b w1 wr va Qt dq KC e.length (mid (λd=>vI u (j (rowOf cs d)) (r (rowOf cs d))) (λd=>j (rowOf cs d)) e i) (e.map λd=>r (rowOf cs d)))) (λc _=>e.length - (intOf c).toNat);case atStart=>exact⟨0,aK _,rfl,aq⟩
 case round=>
  obtain⟨i,hi,rfl,P⟩:=hrel;by_cases cL:i<e.length
  .have ju:(i:Int)<e.length:=by omega
   obtain⟨g,rfl,hg⟩:=ar.J (by omega);obtain⟨g2,rfl,sC⟩:=av.J (by omega);have UA:=ak (aC.J g g2 rfl rfl (by omega));obtain⟨d,O⟩:∃d,e[i]?=σ d:=⟨e[i],af cL⟩;have HM:=ak (aA O);have a5:(e.map λd=>r (rowOf cs d))[i]?=σ (r (rowOf cs d)):=by rw[aV,O];rfl
   have W:=ak (GZ (f:=λd=>vI u (j (rowOf cs d)) (r (rowOf cs d))) (g:=λd=>j (rowOf cs d)) O);have U:=ak (LO (f:=λd=>vI u (j (rowOf cs d)) (r (rowOf cs d))) (g:=λd=>j (rowOf cs d)) O);have UB:=ak (NZ (f:=λd=>vI u (j (rowOf cs d)) (r (rowOf cs d))) (g:=λd=>j (rowOf cs d)) O);obtain⟨x1,y1,z1,e1,p1,D,-⟩:=jw (j (rowOf cs d));obtain⟨x2,y2,z2,e2,p2,E,-⟩:=jw (r (rowOf cs d));obtain⟨⟨d0,d1,d2,d3,d4⟩,-⟩:=jU P.J.b a5 E;obtain⟨⟨u0,u1,u2,u3,u4⟩,-⟩:=jU (P.J.a.alloc (G2 x2 y2 z2 e2 p2)).own W.J D;have ab:=ak D;have F:=ak (fX wr (G2 x2 y2 z2 e2 p2) (G2 x1 y1 z1 e1 p1));go_wp2_with fail;refine(JC _ _ _).mono ?_;rintro y w3 ⟨rfl,G⟩;obtain⟨a0,a1,a2,a3,a4⟩:=wW ((G.block _ (by simp;omega)).trans F.J.2.2);obtain⟨Y,Z,c2,c3,c4⟩:=wW ((G.block _ (by simp)).trans F.J.2.1);have ac:=P.J.below (F.J.1.trans (G.mono F.J.1.size));have a6:wr.heap.size+2<=w3.heap.size:=by simpa using G.size
   have HA:=ak (G.block wr.heap.size (by simp;omega) |>.trans F.J.2.2);have HB:=ak (G.block (wr.heap.size+1) (by simp) |>.trans F.J.2.1)
   cases hf:j (rowOf cs d)with
   |inr y=>
     have NT:=ak (UB.J (show vI u (j (rowOf cs d)) (r (rowOf cs d))=j (rowOf cs d)by rw[hf];rfl));rw[hf]at D;simp[j7]at D;obtain⟨-,-,-,rfl,-⟩:=D;go_wp2_with fail;go_roundw
     case rel=>exact⟨i+1,by omega,by go_num,ak (by rw[<- NT.J];exact ac)⟩
     case measure=>simp[intOf];omega
   |inl c=>
     rw[hf]at D;simp[j7]at D;obtain⟨DU,ad,lI,rfl,rfl⟩:=D;go_wp2_with fail;refine(JC _ _ _).mono ?_;rintro y w4 ⟨rfl,R⟩;have aa:=ac.below R;obtain⟨⟨t0,t1,t2,t3,t4⟩,fz⟩:=jU aa.a.own W.J ab.J;obtain⟨a0,a1,a2,a3,a4⟩:=wW ((R.block _ (by omega)).trans HA.J);obtain⟨Y,Z,c2,c3,c4⟩:=wW ((R.block _ (by omega)).trans HB.J);have V:=aa;have HP:=ak (λ(o:dj) x am z y p h=>aa.put UA.J cL o (x:=x) (y:=am) (z:=z) (e:=y) (p:=p) h);have bg:wr.heap.size+2<=w4.heap.size:=ag a6 R.size
     cases kC:r (rowOf cs d)with
     |inr y=>
       have H:=ak (show vI u (j (rowOf cs d)) (r (rowOf cs d))=.inr y by rw[hf,kC];rfl);rw[kC]at E;have A:=HP.J (.inr y) _ _ _ _ _ E;simp[j7]at E;obtain⟨rfl,rfl,rfl,rfl,rfl⟩:=E;rw[<- H.J,U.J]at A;go_wp2_with fail;go_roundw
       case rel=>exact⟨i+1,by omega,by go_num,A⟩
       case measure=>simp[intOf];omega
     |inl I=>
       obtain⟨cn,cN,cS⟩:=c;obtain⟨dn,dN,dS⟩:=I;rw[kC]at E;simp[j7]at E;obtain⟨rfl,rfl,rfl,rfl,rfl⟩:=E
       dsimp only at DU ad lI;subst DU ad lI;by_cases K:cn=true\/dn=true
       . have H:=ak (show vI u (j (rowOf cs d)) (r (rowOf cs d))=.inl fD by rw[hf,kC];simp[vI];rcases K with h|h<;>simp[h])
         have A:=HP.J (.inl fD) _ _ _ _ _ rfl;rw[<- H.J,U.J]at A
         cases cn<;>cases dn<;>first
          | (simp at K;done)
          | (clear K
             go_wp2_with fail;go_roundw
             case rel=>exact⟨i+1,by omega,by go_num,A⟩
             case measure=>simp[intOf];omega)
       . obtain rfl:cn=false:=by simpa usingλh=>K (.inl h)
         obtain rfl:dn=false:=by simpa usingλh=>K (.inr h)
         have uz:=HW.J _ (hk.below V.a.sX) ⟨false,cN,cS⟩ ⟨false,dN,dS⟩ (JD.J d HM.J _ _ hf kC rfl rfl);have H:=ak (show vI u (j (rowOf cs d)) (r (rowOf cs d))=u ⟨false,cN,cS⟩ ⟨false,dN,dS⟩by rw[hf,kC];simp[vI]);have a8:=cell0 ((V.a.sX.block q3 Z6).trans ap.J) 0;simp only[List.getElem?_toArray,List.getElem?_cons_zero]at a8;unfold kA at uz;go_wp2_with fail;refine uz.mono ?_;rintro y w5 ⟨rfl,x8⟩;obtain⟨x,am,z,er,pl,bd,be⟩:=jw (u ⟨false,cN,cS⟩ ⟨false,dN,dS⟩);rw[be];have h5:=V.below x8;obtain⟨⟨t0,t1,t2,t3,t4⟩,bm⟩:=jU h5.a.own W.J ab.J;have A:=h5.put UA.J cL _ bd;rw[<- H.J,U.J]at A;go_wp2_with fail;go_roundw
         case rel=>exact⟨i+1,by omega,by go_num,A⟩
         case measure=>simp[intOf];omega
  obtain rfl:i=e.length:=(by omega);have M:=P.J;unfold mid at M;rw[eV,fC,xM,bQ]at M;have Ni:=ak M.a;go_wp2_with fail;go_ret;exact⟨_,rfl,Ni.J.own,Ni.J.sX⟩
theorem yT{w:ω}{lo:Nat}{fv:υ}{ok:List aD->Prop}{G:List aD->aD}(j:Z2 w lo fv ok G)(K:lo<=w.heap.size) :
 Calls prog 120 #[fv] w λM w'=>∃u,M=τ u/\dJ w' lo u ok (λrow=>.inl (G row))/\δ w.heap.size w w':=by have A:=j;obtain⟨n,e,rfl,-⟩:=j;have d:δ w.heap.size w (w.alloc (ξ #[.func (.func n) #[] e] 259)):=(ah _ _).alloc (ae _) _;have C:Hid (dJ (w.alloc (ξ #[.func (.func n) #[] e] 259)) lo (.func (.func 152) #[] #[π (σ ⟨w.heap.size,0,ν⟩)]) ok (λrow=>.inl (G row))):=ak ⟨_,_,rfl,call152,λb r O cs Q P D E F H I=>aiP A (ft.back d r) (r.block K (au w _)) D E F H I⟩;have y:=d;clear d;go_in;go_wp2_with fail;go_ret;exact⟨_,rfl,C.J,y⟩
theorem ane(d:υ)(j:Int)(w:ω):Calls prog 121 #[d,ι κ j] w λe w'=>e=τ (kA (po 1))/\δ w.heap.size w w':=by go_in;go_wp2_with fail;refine aB (v:=kA (po 1)) (by simp[results,results121,go_sem,kA,po];try rfl) rfl ?_;exact⟨rfl,by repeat(first|exact ah _ _|refine eX ?_ (by simp) _|refine gS ?_ (by simp) _)⟩
theorem aje(j:υ)(A:Int)(k:Int)(c:aD){q:Nat}{t:TypeId}{w:ω}(e:w.heap[q]?=σ (ξ #[ι κ k,.bool c.null,ι κ c.n,θ c.s] t (0,0))):Calls prog 173 #[j,ι κ A,π (σ ⟨q,0,ν⟩)] w λy w'=>y=τ (kA c)/\δ w.heap.size w w':=by have d:=(ct w (ru false 0 ⟨#[]⟩) q (aw e)).trans e;have r:=cell0 d 1;have c2:=cell0 d 2;have u:=cell0 d 3;simp only[List.getElem?_toArray,List.getElem?_cons_zero,List.getElem?_cons_succ]at r c2 u;clear e d;go_in;go_wp2_with fail;refine aB (v:=kA c) (by simp[results,results173,go_sem,kA];try rfl) rfl ?_;exact⟨rfl,by repeat(first|exact ah _ _|refine eX ?_ (by simp) _|refine gS ?_ (by simp) _)⟩
theorem ajf{cs:List (List aD)}{i:Nat}{q:Nat}{t:TypeId}{w:ω}(A:w.heap[q]?=σ (ξ #[ι κ i] t (0,0)))(C:eC w y cs)(K:i<cs.length)(D:wU cs [u]):Calls prog 175 #[y,ι κ u,π (σ ⟨q,0,ν⟩)] w λI w'=>I=τ (kA ((rowOf cs u).getD i fD))/\δ w.heap.size w w':=by
 have j:δ w.heap.size w (w.alloc (ru false 0 ⟨#[]⟩)):=(ah _ _).alloc (ae _) _;have H:=cell0 ((j.block q (aw A)).trans A) 0;simp only[List.getElem?_toArray,List.getElem?_cons_zero]at H;obtain⟨d,e⟩:∃c,cs[i]?=σ c:=⟨cs[i],af K⟩;have F:u<d.length:=D u (by simp) d (aA e);obtain⟨c,r⟩:∃c,d[u]?=σ c:=⟨d[u],af F⟩;obtain⟨g,o,cap,V,rfl,P,E⟩:=(C.below j (ae _)).get e;obtain⟨g2,U,W,rfl,Q,R,T⟩:=E.get r;have G:=ak (show(rowOf cs u).getD i fD=c by simp[rowOf,List.getD,e,r]);have M:(i:Int)<cs.length:=by omega
 have O:(u:Int)<d.length:=by omega
 clear A e r C D E j;rw[G.J];go_in;go_wp2_with fail;refine aB (v:=kA c) (by simp[results,results175,go_sem,kA];try rfl) rfl ?_;exact⟨rfl,by repeat(first|exact ah _ _|refine eX ?_ (by simp) _|refine gS ?_ (by simp) _)⟩
def rN(c:aD):Prop:=c=fD\/c=po 0\/c=po 1
def WG(s:Bool):dj->Bool
 |.inl c=>!c.null&&decide (c.n=if s then 1 else 0)
 |.inr _=>false
def iO(s:Bool)(l r:dj):dj:=
 match l with
 |.inr e=>.inr e
 |.inl u=>if WG s l then l else match r with
   |.inr e=>.inr e
   |.inl v=>if WG s r then r else if u.null then .inl u else .inl v
def tK(s:Bool):dj->Bool
 |.inr _=>false
 |.inl c=>!WG s (.inl c)
def opens(s:Bool)(F:Nat->dj)(rows:List Nat)(i:Nat):List (Nat×Nat):=((rows.take i).zipIdx).filter λp=>tK s (F p.1)
theorem xj{s:Bool}{d:Nat->dj}{i:Nat}(h:r[i]?=σ u):opens s d r (i+1)=opens s d r i++(if tK s (d u)then[(u,i)]else[]):=by unfold opens;have e:=(aj.mp h).1;rw[de,h,List.zipIdx_append,pJ];congr 1;simp[List.filter_cons,List.zipIdx,Nat.min_eq_left (Nat.le_of_lt e)]
theorem KJ(s:Bool)(d:Nat->dj)(e:List Nat)(i:Nat):(opens s d e i).length<=i:=by unfold opens;refine ag (fH _ _) ?_;simp;omega
theorem WH{s:Bool}{d:Nat->dj}{i:Nat}{p:Nat×Nat}(h:p∈opens s d r i):r[p.2]?=σ p.1/\tK s (d p.1)=true:=by unfold opens at h;obtain⟨e,j⟩:=eA.mp h;have:=nz.mp e;rw[gd]at this;split at this;{exact⟨this,j⟩};cases this
theorem Ov{s:Bool}{e:Nat->dj}{i:Nat}:(opens s e r i).Pairwise λa b=>a.2<b.2:=by
 induction i with
 |zero=>simp[opens]
 |succ i u=>
   cases h:r[i]? with
   |none=>
     have A:r.length<=i:=by simpa using h
     have y:opens s e r (i+1)=opens s e r i:=by unfold opens;rw[aI (by omega),aI A]
     rw[y];exact u
   |some C=>
     rw[xj h,jS];refine⟨u,by split<;>simp,λa j b d=>?_⟩;split at d
     . simp at d
       subst d;unfold opens at j;have:=nz.mp (eA.mp j).1;have:=(aj.mp this).1;simp at this;omega
     . simp at d
def Ay(s:Bool)(F G:Nat->dj)(rows:List Nat)(ops:List (Nat×Nat)):List dj:=rows.zipIdx.map λp=>if p∈ops then iO s (F p.1) (G p.1)else F p.1
theorem aaA{s:Bool}{d e:Nat->dj}{ops:List (Nat×Nat)}:(Ay s d e r ops).length=r.length:=by simp[Ay]
theorem aaB{s:Bool}{d e:Nat->dj}:Ay s d e r []=r.map d:=by unfold Ay;apply cB;intro j;simp[List.getElem?_zipIdx];cases r[j]?<;>rfl
theorem UM{s:Bool}{F G:Nat->dj}{ops:List (Nat×Nat)}(h:r[u]?=σ X)(d:(X,u)∉ops):(Ay s F G r ops)[u]?=σ (F X):=by unfold Ay;simp[List.getElem?_zipIdx,h,d]
theorem Ox{s:Bool}{F G:Nat->dj}{ops:List (Nat×Nat)}(h:r[u]?=σ X):(Ay s F G r ops).set u (iO s (F X) (G X))=Ay s F G r (ops++[(X,u)]):=by
 apply cB;intro i;have y:=(aj.mp h).1;rw[bH];by_cases e:u=i;{subst e;rw[aF rfl,aF (by rw[aaA];exact y)];unfold Ay;simp[List.getElem?_zipIdx,h]}
 rw[aE e]
 unfold Ay;simp only[List.getElem?_map,List.getElem?_zipIdx,Nat.zero_add]
 cases hi:r[i]? with
 |none=>rfl
 |some q=>
   have:(q,i)∈ops++[(X,u)]↔(q,i)∈ops:=by simp;intro _ j;exact absurd j.symm e
   simp only[Option.map_some];by_cases d:(q,i)∈ops
   . rw[aF d,aF (this.mpr d)]
   . rw[aE d,aE (mt this.mp d)]
theorem WI{s:Bool}{F G:Nat->dj}{ops:List (Nat×Nat)}(h:r[u]?=σ X)(j:(X,u)∉ops)(e:iO s (F X) (G X)=F X):Ay s F G r ops=Ay s F G r (ops++[(X,u)]):=by rw[<- Ox h,e];have:=UM (s:=s) (F:=F) (G:=G) h j;apply cB;intro i;rw[bH];by_cases d:u=i;{subst d;rw[aF rfl,this,aF (aj.mp this).1]};rw[aE d]
theorem aaC{s:Bool}{F G:Nat->dj}{rows:List Nat}:Ay s F G rows (opens s F rows rows.length)=rows.map λd=>iO s (F d) (G d):=by
 unfold Ay;apply cB;intro r;simp only[List.getElem?_map,List.getElem?_zipIdx,Nat.zero_add]
 cases hj:rows[r]? with
 |none=>rfl
 |some d=>
   simp only[Option.map_some];congr 1;have j:(d,r)∈opens s F rows rows.length↔tK s (F d)=true:=by
    unfold opens;rw[eV,eA,nz];simp[hj]
   by_cases e:tK s (F d)=true
   . rw[aF (j.mpr e)]
   . rw[aE (λh=>e (j.mp h))]
     cases hf:F d with
     |inr u=>rfl
     |inl c=>
       rw[hf]at e;simp only[tK,Bool.not_eq_true',Bool.not_eq_false]at e;simp[iO,e]
theorem Tryz.vP:(prog.info? 3).map (λi=>(i.zero,i.size,i.bytes))=σ (σ (ι κ 0),1,8):=by kernel_rfl
theorem yU{w:ω}{size n k:Nat}{t:TypeId}{v:υ}{xs:List υ}(h:w.ownsRow u t size v n xs)(d:v.ownBlock=σ k):u<=k/\k<w.heap.size:=by rcases h.2 with⟨rfl,-⟩|⟨g,cap,cur,rfl,j,e,-⟩;{cases d};cases d;exact⟨j,aw e⟩
structure yV (b w1 wr:ω)(v:υ)(s:Bool)(f:Nat->dj)(rows:List Nat)(i:Nat)(vo vr:υ):Prop where
 out:wr.ownsRow b.heap.size 298 5 v rows.length ((rows.map f).flatMap j7)
 op:wr.ownsRow w1.heap.size 3 1 vo (opens s f rows i).length ((opens s f rows i).map λp=>mM p.2)
 rw':wr.ownsRow w1.heap.size 3 1 vr (opens s f rows i).length ((opens s f rows i).map λp=>mM p.1)
 sep:∀k,vo.ownBlock=σ k->vr.ownBlock≠σ k
 old:∀k,v.ownBlock=σ k->k<w1.heap.size
 sX:δ b.heap.size b wr
 sz:w1.heap.size<=wr.heap.size
 bsz:b.heap.size<=w1.heap.size
theorem yV.below{b w1 wr w':ω}{v:υ}{s:Bool}{f:Nat->dj}{i:Nat}(h:yV b w1 wr v s f r i y e)(d:δ wr.heap.size wr w')(j:opens s f r u=opens s f r i):yV b w1 w' v s f r u y e:=
 ⟨cq h.out d,by rw[j];exact cq h.op d,by rw[j];exact cq h.rw' d,h.sep,h.old,h.sX.trans (d.mono h.sX.size),ag h.sz d.size,h.bsz⟩
theorem yV.alloc{b w1 wr:ω}{v:υ}{s:Bool}{f:Nat->dj}{i:Nat}(h:yV b w1 wr v s f r i y e)(o:Obj):yV b w1 (wr.alloc o) v s f r i y e:=
 ⟨h.out.alloc o,h.op.alloc o,h.rw'.alloc o,h.sep,h.old,h.sX.alloc h.sX.size o,by simp;have:=h.sz;omega,h.bsz⟩
theorem yV.push{b w1 wr:ω}{v:υ}{s:Bool}{f:Nat->dj}{i:Nat}(h:yV b w1 wr v s f r i y e)(W:r[i]?=σ u)(V:tK s (f u)=true){c c':Obj}{g cap:Nat}
 (C:P.ownsRow w1.heap.size 3 1 (ψ (σ ⟨g,0,ν⟩) ((opens s f r i).length+1) cap) ((opens s f r i).length+1) (((opens s f r i).map λp=>mM p.2)++[mM i])) (g2:(wr.alloc c).grownBy P y.ownBlock) (M:y.ownBlock=σ g\/wr.heap.size+1<=g)
 (R:U.ownsRow w1.heap.size 3 1 (ψ (σ ⟨X,0,ν⟩) ((opens s f r i).length+1) K) ((opens s f r i).length+1) (((opens s f r i).map λp=>mM p.1)++[mM u])) (g3:(P.alloc c').grownBy U e.ownBlock) (O:e.ownBlock=σ X\/P.heap.size+1<=X) :
 yV b w1 U v s f r (i+1) (ψ (σ ⟨g,0,ν⟩) (opens s f r (i+1)).length cap) (ψ (σ ⟨X,0,ν⟩) (opens s f r (i+1)).length K):=by
 have D:opens s f r (i+1)=opens s f r i++[(u,i)]:=by rw[xj W,aF V]
 have F:(opens s f r (i+1)).length=(opens s f r i).length+1:=by rw[D];simp
 have Z:g<P.heap.size:=(yU C rfl).2;have G:∀k,e.ownBlock=σ k->k<wr.heap.size:=λk d=>(yU h.rw' d).2;have Y:wr.heap.size+1<=P.heap.size:=by have:=g2.size;simpa using this
 have E:∀k,e.ownBlock=σ k->g≠k:=λk d T=>by
  subst T;rcases M with j|j
  . exact h.sep g j d
  . have:=G g d;omega
 have I:=dH (h.out.alloc c) g2 (λk d A=>by have Q:=(yU h.op d).1;have C:=h.old k A;omega);have vC:δ b.heap.size b P:=(h.sX.alloc h.sX.size c).grown g2 (by simp;have:=h.sX.size;omega) (λk d=>ag h.bsz (yU h.op d).1);refine⟨dH (I.alloc c') g3 (λk d A=>by have Q:=(yU h.rw' d).1;have C:=h.old k A;omega),?_,?_,λk d H=>?_,h.old,(vC.alloc vC.size c').grown g3 (by simp;have:=vC.size;omega) (λk d=>ag h.bsz (yU h.rw' d).1),?_,h.bsz⟩;{rw[F,D,dY];exact dH (C.alloc c') g3 (λk d A=>E k d (by cases A;rfl))};{rw[F,D,dY];exact R};{cases d;cases H;rcases O with j|j;{exact E _ j rfl};omega};have:=g3.size;simp at this;have:=h.sz;omega
structure Sx (b w1 w:ω)(N:Nat)(va ao Qt:Option Addr)(c co c2 n:Nat)(ops:List (Nat×Nat))(l l2:List dj):Prop where
 a:Ow b w va c n l
 o:w.ownsRow w1.heap.size 3 1 (ψ ao ops.length co) ops.length (ops.map λp=>mM p.2)
 r:w.ownsRow N 298 5 (ψ Qt ops.length c2) ops.length (l2.flatMap j7)
section
variable {b w1 w w':ω} {va ao Qt:Option Addr} {c co c2 n g g2 g3 i N:Nat} {l l2:List dj} {ops:List (Nat×Nat)}
theorem Sx.below(h:Sx b w1 w N va ao Qt c co c2 n ops l l2)(d:δ w.heap.size w w'):Sx b w1 w' N va ao Qt c co c2 n ops l l2:=⟨h.a.below d,cq h.o d,cq h.r d⟩
theorem Sx.put(h:Sx b w1 w N (σ ⟨g,0,ν⟩) (σ ⟨g3,0,ν⟩) (σ ⟨g2,0,ν⟩) c co c2 n ops l l2)(j:g≠g3)(d:g≠g2)(r:i<n)(o:dj){x:Bool}{y:Int}{z:ByteArray}{e p:Int}(u:j7 o=[.bool x,ι κ y,θ z,ι κ e,ι κ p]) :
 Sx b w1 (NW w g (i*5) x y z e p) N (σ ⟨g,0,ν⟩) (σ ⟨g3,0,ν⟩) (σ ⟨g2,0,ν⟩) c co c2 n ops (l.set i o) l2:=
 ⟨h.a.put r o u,aiO h.o (by simp[Value.ownBlock];exactλe=>j e.symm),aiO h.r (by simp[Value.ownBlock];exactλe=>d e.symm)⟩
end
theorem iP(k:Nat)(d:Array υ)(a:Addr)(m:Go.Mode)(w:ω):(store a (.func (.func k) #[] d) m).run prog w=stored prog w a (.func (.func k) #[] d) m:=run_store prog w a _ m rfl
theorem ie{ops:Array Oper}{o:Oper}{a:Act}{w:ω}{r:Act->ω->Prop}{A:Exit->Act->ω->Prop}{y:Prop}(H:o.guard=ν)(f:FuncId)(xs:Array Operand)(C:Array TypeId)
 (j:o.op=.call { callee:=.value (.func f),args:=xs,argTypes:=C }) (G:∀(d:Array υ) (w:ω),Sem.run W (callFunc f d) w=.ok (.enter f d) w) (d:Array υ) (F:#[]++xs.map a.eval++#[]=d)
 (u:Ending->ω->Prop) (D:Calls W f d w u) (h:∀e w',u e w'->∃v,e=τ v/\r (a.put o.dst v) w'):if Region.wanted o (yielded ops a.tmps)=true then Oper.wp W o a w r A else y:=by
 have K:Region.wanted o (yielded ops a.tmps)=true:=by simp[Region.wanted,H]
 rw[aF K];have e:execOp a.eval o=callFunc f d:=(by cases o;simp only at j;subst j;rw[<- F];rfl);unfold Oper.wp;rw[e,G,Oper.upon_enter];refine D.mono ?_;intro M w' I;obtain⟨v,rfl,E⟩:=h M w' I;exact E
def dG{α β:Type}(f:α->Nat ⊕ β):List α->Nat ⊕ List β
 |[]=>.inr []
 |a::l=>match f a with
   |.inl p=>.inl p
   |.inr b=>match dG f l with
     |.inl p=>.inl p
     |.inr bs=>.inr (b::bs)
theorem om{α j:Type}(f:α->Nat ⊕ j)(d B:List α):dG f (d++B)=match dG f d with
 |.inl p=>.inl p
 |.inr a=>match dG f B with
   |.inl p=>.inl p
   |.inr b=>.inr (a++b):=by
 induction d with
 |nil=>simp only[List.nil_append,dG];cases dG f B<;>rfl
 |cons x l e=>
   simp only[List.cons_append,dG]
   cases f x with
   |inl p=>rfl
   |inr b=>
     simp only[e]
     cases dG f l with
     |inl p=>rfl
     |inr c=>cases dG f B<;>rfl
theorem zW{α e:Type}{f:α->Nat ⊕ e}:∀{d:List α} {b:List e},dG f d=.inr b->b.length=d.length
 |[],b,h=>by cases h;rfl
 |x::l,b,h=>by
   simp only[dG]at h
   cases hx:f x with
   |inl p=>rw[hx]at h;cases h
   |inr j=>
     rw[hx]at h
     cases hl:dG f l with
     |inl p=>rw[hl]at h;cases h
     |inr c=>rw[hl]at h;cases h;simp[zW hl]
theorem KP{α r:Type}{f:α->Nat ⊕ r}:∀{e:List α} {b:List r},dG f e=.inr b->∀j∈b,∃x∈e,f x=.inr j
 |[],b,h=>by cases h;simp
 |x::l,b,h=>by
   simp only[dG]at h
   cases hx:f x with
   |inl p=>rw[hx]at h;cases h
   |inr j=>
     rw[hx]at h
     cases hl:dG f l with
     |inl p=>rw[hl]at h;cases h
     |inr c=>
       rw[hl]at h
       cases h
       intro z d;rcases bF.mp d with rfl|d
       . exact⟨x,by simp,hx⟩
       . obtain⟨A,u,y⟩:=KP hl z d
         exact⟨A,cy _ u,y⟩
theorem Ea{α e j:Type}(f:e->Nat ⊕ j)(g:α->e):∀d:List α,dG f (d.map g)=dG (λa=>f (g a)) d
 |[]=>rfl
 |x::l=>by simp only[List.map_cons,dG,Ea f g l]
def qN:dj->Nat ⊕ aD
 |.inl c=>.inr c
 |.inr p=>.inl p
def pQ:dj->Bool
 |.inl c=>!c.null&&decide (c.n=1)
 |.inr _=>false
def kD{α:Type}(F:α->dj)(R:List α):Nat ⊕ List α:=match dG (λr=>qN (F r)) R with
 |.inl p=>.inl p
 |.inr _=>.inr (R.filter λr=>pQ (F r))
theorem xp{α:Type}(d:α->dj)(e B:List α):kD d (e++B)=match kD d e with
 |.inl p=>.inl p
 |.inr a=>match kD d B with
   |.inl p=>.inl p
   |.inr b=>.inr (a++b):=by
 unfold kD;rw[om]
 cases dG (λj=>qN (d j)) e with
 |inl p=>rfl
 |inr a=>
   simp only
   cases dG (λj=>qN (d j)) B with
   |inl p=>rfl
   |inr b=>simp only[List.filter_append]
theorem WT{α j:Type}(e:j->dj)(g:α->j)(d:List α):kD e (d.map g)=match kD (λa=>e (g a)) d with
 |.inl p=>.inl p
 |.inr a=>.inr (a.map g):=by
 unfold kD;rw[Ea]
 cases dG (λa=>qN (e (g a))) d with
 |inl p=>rfl
 |inr a=>simp only[List.filter_map];rfl
theorem Eb{α:Type}{e:α->dj}{d r:List α}(h:kD e d=.inr r):r=d.filter λj=>pQ (e j):=by
 unfold kD at h
 cases hA:dG (λj=>qN (e j)) d with
 |inl p=>rw[hA]at h;cases h
 |inr a=>rw[hA]at h;cases h;rfl
abbrev KQ:=Nat×Nat×Nat
def kZ{α:Type}(F:α->dj)(R:List α)(s:KQ):List α×KQ:=
 if s.2.1≠0 then([],s)else match kD F R with
  |.inl q=>([],(s.1,9,q))
  |.inr K=>(K,(s.1+K.length,0,0))
def vT{α:Type}(F:α->dj)(R R':List α)(s:KQ):Prop:=match kD F R with
 |.inl q=>s.2.1=9/\s.2.2=q
 |.inr K=>R'=K/\s=(K.length,0,0)
theorem vT.nil{α:Type}(d:α->dj):vT d [] [] (0,0,0):=⟨rfl,rfl⟩
theorem vT.keep{α:Type}{d:α->dj}{e j:List α}{s:KQ}(h:vT d e j s)(B:List α):vT d (e++B) (j++(kZ d B s).1) (kZ d B s).2:=by
 unfold vT at h ⊢;rw[xp]
 cases hR:kD d e with
 |inl q=>
   rw[hR]at h;simp only at h ⊢;unfold kZ;rw[aF (by rw[h.1];decide)];exact h
 |inr r=>
   rw[hR]at h;simp only at h ⊢;obtain⟨rfl,rfl⟩:=h;unfold kZ;rw[aE (by simp)]
   cases hB:kD d B with
   |inl q=>exact⟨rfl,rfl⟩
   |inr b=>exact⟨rfl,by simp⟩
def A9(a b:Int):Int×Bool:=(wrap64 (a - b),decide (a<wrap64 (a - b))==decide (b<0))
def tO(o:Nat)(a b:Int):Int×Bool:=
 if o=0 then(wrap64 (a+b),decide (wrap64 (a+b)<a)==decide (b<0))
 else if o=1 then A9 a b
 else if o=2 then(if a=0 then(0,true)else if a=-1 then A9 0 b else(wrap64 (a*b),IntKind.i64.wrap ((wrap64 (a*b)).tdiv a)==b))
 else if o=3 then(if b=0 then(0,false)else if b=-1 then A9 0 a else(IntKind.i64.wrap (a.tdiv b),true))
 else if b=0 then(0,false)else(a.tmod b,true)
def BJ(f:Nat)(args:Array υ)(p:Int×Bool):Prop:=∀w,Calls prog f args w λr w'=>r=τ (.tuple #[ι κ p.1,.bool p.2])/\δ w.heap.size w w'
theorem SB(a b:Int):BJ 204 #[ι κ a,ι κ b] (A9 a b):=by intro w;go_in;go_wp2_with fail;(try simp only[Exit.inBlock,Exit.then]);refine aB (v:=.tuple #[ι κ (wrap64 (a - b)),.bool (decide (a<wrap64 (a - b))==decide (b<0))]) (by simp[results,results204,go_sem];try rfl) rfl ⟨rfl,ah _ _⟩
set_option linter.unusedSimpArgs false in
theorem afg(a b:Int):BJ 244 #[ι κ a,ι κ b] (tO 0 a b)/\BJ 245 #[ι κ a,ι κ b] (tO 2 a b)/\BJ 246 #[ι κ a,ι κ b] (tO 3 a b)/\BJ 247 #[ι κ a,ι κ b] (tO 4 a b):=by
 have f:∀x:Int,x=0\/x=-1\/x≠0/\x≠-1/\(x==0)=false/\(x==-1)=false:=λx=>by
  by_cases h:x=0<;>by_cases g:x=-1<;>simp[h,g]
 have g:∀n,IntKind.i64.wrap n=wrap64 n:=λn=>by unfold wrap64;exact jC n
 refine⟨?_,?_,?_,?_⟩;all_goals intro w
 case' refine_2=>rcases f a with rfl|rfl|⟨d,e,r,u⟩
 case' refine_3=>rcases f b with rfl|rfl|⟨d,e,r,u⟩
 case' refine_4=>rcases f b with rfl|rfl|⟨d,e,r,u⟩
 all_goals(go_in;go_wp2_with fail;(try(refine(SB 0 _ _).mono ?_;rintro A w1 ⟨rfl,j⟩;have y:=ak j;clear j;go_wp2_with fail));(try go_region);all_goals((try go_wp2_with fail);(try simp only[Exit.inBlock,Exit.then]);refine aB (by simp[results,results244,results245,results246,results247,go_sem];rfl) rfl ⟨?_,?_⟩;{first|rfl|(simp[tO,d,e,g];done)|(simp[tO,g];done)};repeat(first|exact ah _ _|exact y.J|refine aH ?_)))
theorem ajB(o:Nat)(H:o<=4)(a b:Int):BJ 230 #[ι κ o,ι κ a,ι κ b] (tO o a b):=by
 intro w;have G:o=0\/o=1\/o=2\/o=3\/o=4:=by omega
 obtain⟨j,r,u,y⟩:=afg a b;have A:=ak (j w);have d:=ak (show Calls _ _ _ _ _ from SB a b w);rw[show A9 a b=tO 1 a b from rfl]at d;have C:=ak (r w);have D:=ak (u w);have E:=ak (y w);clear H j r u y;rcases G with rfl|rfl|rfl|rfl|rfl<;>(
  go_in;go_wp2_with fail
  first
   |refine A.J.mono ?_
   |refine d.J.mono ?_
   |refine C.J.mono ?_
   |refine D.J.mono ?_
   |refine E.J.mono ?_
  rintro I w1 ⟨rfl,e⟩;have F:=ak e;clear e;go_wp2_with fail
  (try simp only[Exit.inBlock,Exit.then])
  exact aB (v:=.tuple #[ι κ (tO _ a b).1,.bool (tO _ a b).2]) (by simp[results,results230,go_sem];try rfl) rfl ⟨rfl,F.J⟩)
def Ec(pl:Nat)(p:Int×Bool):dj:=if p.2 then .inl (po p.1)else .inr pl
theorem td(h:Bool)(w:ω):Calls prog 157 #[.bool h] w λd w'=>d=τ (yF (.inl (jL h)))/\δ w.heap.size w w':=by cases h;all_goals(go_in;go_wp2_with fail;refine aB (by simp[results,results157,go_sem];rfl) rfl ?_;exact⟨rfl,by repeat(first|exact ah _ _|refine eX ?_ (by simp) _|refine gS ?_ (by simp) _)⟩)
def KR(a:ω)(lo:Nat)(fv:υ)(pl:Nat):Prop:=
 ∃n caps,fv=.func (.func n) #[] caps/\Enters n/\∀b,ft lo a.heap.size a b->∀p:Int×Bool,Calls prog n (#[ι κ p.1,.bool p.2]++caps) b λe b'=>e=τ (yF (Ec pl p))/\δ b.heap.size b b'
theorem numLit(e:Nat)(p:Int×Bool){q:Nat}{t:TypeId}{w:ω}(d:w.heap[q]?=σ (ξ #[ι κ e] t (0,0))):Calls prog 223 #[ι κ p.1,.bool p.2,π (σ (Ad q 0))] w λr w'=>r=τ (yF (Ec e p))/\δ w.heap.size w w':=by obtain⟨n,h⟩:=p;have j:=λo=>cell0 ((ct w o q (aw d)).trans d) 0;simp only[List.getElem?_toArray,List.getElem?_cons_zero]at j;have u:=aw d;cases h;all_goals(go_in;go_wp2_with fail;refine aB (v:=χ #[.bool false,ι κ _,θ ⟨#[]⟩,ι κ _,ι κ _]) (by simp[results,results223,go_sem];exact⟨rfl,rfl,rfl⟩) rfl ?_;exact⟨rfl,by repeat(first|exact ah _ _|refine eX ?_ (by simp) _|refine gS ?_ (by simp) _)⟩)
theorem CO{w:ω}{lo:Nat}(d:Nat)(r:lo<=w.heap.size):Calls prog 202 #[ι κ d] w λu w'=>∃v,u=τ v/\KR w' lo v d/\δ w.heap.size w w':=by have e:Hid (KR (w.alloc (ξ #[ι κ d] 3)) lo (.func (.func 223) #[] #[π (σ (Ad w.heap.size 0))]) d):=ak ⟨_,_,rfl,call223,λb j p=>numLit d p (j.block r (au w _))⟩;go_in;go_wp2_with fail;go_ret;exact⟨_,rfl,e.J,(ah _ _).alloc (ae _) _⟩
def BK(o:Nat)(d:Int):Bool:=if o=5 then decide (d=0)else if o=6 then decide (d≠0)else if o=7 then decide (d<0)else if o=8 then decide (d<=0)else if o=9 then decide (d>0)else decide (d>=0)
theorem WV(o:Nat)(r:5<=o)(u:o<=10)(d:Int)(w:ω):Calls prog 227 #[ι κ o,ι κ d] w λe w'=>e=τ (.bool (BK o d))/\w'=w:=by
 have j:o=5\/o=6\/o=7\/o=8\/o=9\/o=10:=by omega
 rcases j with rfl|rfl|rfl|rfl|rfl|rfl;all_goals(go_in;go_wp2_with fail;go_ret;exact⟨by first|rfl|(congr 1;simp[BK];done)|(simp[BK,bne,BEq.beq];done),rfl⟩)
abbrev qm:Obj:=G2 false 0 ⟨#[]⟩ 0 0
abbrev nH(c:aD):Obj:=.cells #[.bool c.null,.int .i64 c.n,.string c.s] 229
theorem WX{w w1:ω}{B:Nat}(j:P.heap[u]?=σ qm)(C:δ B w P)(A:δ P.heap.size P w1)(e:B<=u) :
 (w1.cell? (Ad u 0)=σ (.bool false)/\w1.cell? (Ad u 1)=σ (ι κ 0)/\w1.cell? (Ad u 2)=σ (θ ⟨#[]⟩)/\w1.cell? (Ad u 3)=σ (ι κ 0)/\w1.cell? (Ad u 4)=σ (ι κ 0))/\(w1.frozen? (Ad u 0)=false/\w1.frozen? (Ad u 1)=false/\w1.frozen? (Ad u 2)=false/\w1.frozen? (Ad u 3)=false/\w1.frozen? (Ad u 4)=false)/\
 ∀a b c r y,δ B w (((((w1.setCell (Ad u 0) a).setCell (Ad u 1) b).setCell (Ad u 2) c).setCell (Ad u 3) r).setCell (Ad u 4) y):=by
 have d:=(A.block u (aw j)).trans j;refine⟨wW d,⟨eR d 0,eR d 1,eR d 2,eR d 3,eR d 4⟩,λa b c r y=>?_⟩;have D:B<=P.heap.size:=by have:=aw j;omega
 have:=C.trans (A.mono D);exact((((this.setCell e _).setCell e _).setCell e _).setCell e _).setCell e _
theorem Hz(w:ω)(o d e:Obj):δ w.heap.size w (((w.alloc o).alloc d).alloc e)/\(((w.alloc o).alloc d).alloc e).heap[w.heap.size+2]?=σ e:=by refine⟨(fX w o d).1.alloc (by simp;omega) _,?_⟩;have:=au ((w.alloc o).alloc d) e;simpa using this
theorem ajC(c:aD)(w:ω):Calls prog 201 #[kA c] w λd w'=>d=τ (yF (.inl (jL (decide (c.n=0)))))/\δ w.heap.size w w':=by have e:=fX w (nH c) qm;have y:=td (c.n==0) ((w.alloc (nH c)).alloc qm);have u:=ak (λw1 (h:δ _ _ w1)=>WX e.2.1 e.1 h (by omega));unfold kA;go_in;go_wp2_with fail;refine y.mono ?_;rintro d w1 ⟨rfl,D⟩;obtain⟨x,P,z,K,O,M,j⟩:=jw (.inl (jL (c.n==0)));obtain⟨⟨E,F,G,H,I⟩,⟨Q,R,T,U,V⟩,C⟩:=u.J w1 D;have r:=ak C;have A:=ak j;rw[j];go_wp2_with fail;refine aB (by simp[results,results201,go_sem,E,F,G,H,I];rfl) rfl ?_;exact⟨by rw[<- A.J];rfl,r.J _ _ _ _ _⟩
theorem ajD{a w:ω}{lo q:Nat}{t:TypeId}(Z:KR a lo y u)(P:ft lo a.heap.size a w)(e:w.heap[q]?=σ (ξ #[y] t (0,0)))(c:aD):Calls prog 203 #[kA c,π (σ (Ad q 0))] w λA w'=>A=τ (yF (Ec u (A9 0 c.n)))/\δ w.heap.size w w':=by
 obtain⟨n,W,rfl,r,K⟩:=Z;have d:=fX w (nH c) qm;obtain⟨G,C⟩:=nm ((w.alloc (nH c)).alloc qm);rw[<- C]at d;have U:=ak (λw1 (h:δ _ _ w1)=>WX d.2.1 d.1 h (by omega));have F:=ak (λw1 (h:δ _ _ w1)=>show w1.cell? (Ad q 0)=σ (.func (.func n) #[] W)from cell0 ((h.block q (ai (aw e) d.1.size)).trans ((d.1.block q (aw e)).trans e)) 0);have FF:=F.J _ (ah _ _);obtain⟨X,-⟩:=kL d.2.2;obtain⟨-,c1,-⟩:=kL d.2.2;have Je:=aw e;obtain⟨p,Q⟩:=nm (A9 0 c.n);have D:=ak (λw1=>SB 0 c.n w1);rw[<- Q]at D ⊢;have E:=ak (λw1 (h:δ _ _ w1)=>K w1 ((P.below d.1).below h) p);have V:=ak C;obtain⟨x,ac,z,er,ab,Y,M⟩:=jw (Ec u p);rw[M]at E ⊢;unfold Enters at r;clear d Q e K P C Y M X;unfold kA;go_in;go_wp2_with fail;rw[<- V.J];go_region_with(first
  | (go_at_call 204;refine(D.J _).mono ?_;rintro A w1 ⟨rfl,H⟩;have j:=(aH (ah G.heap.size G)).trans H;have aa:=F.J w1 j;have I:=ak j;have T:=ak (E.J w1 j);clear H j)
  | (refine T.J.mono ?_;rintro A w2 ⟨rfl,O⟩;obtain⟨⟨q0,q1,q2,q3,q4⟩,⟨z0,z1,z2,z3,z4⟩,r⟩:=U.J w2 (I.J.trans (O.mono I.J.size));have R:=ak r;clear O r))
 all_goals((try go_wp2_with fail);(try simp only[Exit.inBlock,Exit.then]);refine aB (by simp[results,results203,go_sem,q0,q1,q2,q3,q4];rfl) rfl ?_;exact⟨rfl,R.J _ _ _ _ _⟩)
theorem ajE(c:aD)(d:Bool)(H:υ){q:Nat}{t:TypeId}{w:ω}(j:w.heap[q]?=σ (ξ #[H,.bool d] t (0,0))):Calls prog 177 #[kA c,π (σ (Ad q 0))] w λr w'=>r=τ (yF (.inl (jL (c.null != d))))/\δ w.heap.size w w':=by have e:=fX w (nH c) qm;have C:=td (c.null != d) ((w.alloc (nH c)).alloc qm);have A:=ak (λw1 (h:δ _ _ w1)=>WX e.2.1 e.1 h (by omega));have E:=cell0 ((e.1.block q (aw j)).trans j) 1;simp only[List.getElem?_toArray,List.getElem?_cons_zero,List.getElem?_cons_succ]at E;have Q:=aw j;unfold kA;go_in;go_wp2_with fail;refine C.mono ?_;rintro r w1 ⟨rfl,G⟩;obtain⟨x,V,z,R,U,T,u⟩:=jw (.inl (jL (c.null != d)));obtain⟨⟨I,K,M,O,P⟩,⟨W,X,Y,Z,z4⟩,F⟩:=A.J w1 G;have y:=ak F;have D:=ak u;rw[u];go_wp2_with fail;refine aB (by simp[results,results177,go_sem,I,K,M,O,P];rfl) rfl ?_;exact⟨by rw[<- D.J],y.J _ _ _ _ _⟩
def unO(W:aD->dj)(c:aD):dj:=if c.null then .inl c else W c
theorem anM{a b:ω}{lo q:Nat}{t:TypeId}{ok:aD->Prop}{d:aD->dj}(V:vG a lo y ok d)(U:ft lo a.heap.size a b)(u:b.heap[q]?=σ (ξ #[y] t (0,0)))(c:aD)(T:ok c) :
 Calls prog 200 #[kA c,π (σ (Ad q 0))] b λC K=>C=τ (yF (unO d c))/\δ b.heap.size b K:=by
 obtain⟨n,aa,rfl,O,M⟩:=V;have e:=fX b (nH c) qm;have j:=M ((b.alloc (nH c)).alloc qm) (U.below e.1) c T;have G:=ak (λw1 (h:δ _ _ w1)=>WX e.2.1 e.1 h (by omega));have E:=cell0 ((e.1.block q (aw u)).trans u) 0;simp only[List.getElem?_toArray,List.getElem?_cons_zero]at E;have Je:=aw u;unfold Enters at O;obtain⟨W,r,cs⟩:=c;unfold kA at j ⊢
 cases W with
 |true=>
   go_in;go_wp2_with fail;refine aB (by simp[results,results200,go_sem];rfl) rfl ?_;refine⟨rfl,?_⟩
   repeat(first|exact ah _ _|refine eX ?_ (by simp) _|refine gS ?_ (by simp) _)
 |false=>
   have A:=ak (show unO d ⟨false,r,cs⟩=d ⟨false,r,cs⟩from rfl);obtain⟨I,Q⟩:=nm (d ⟨false,r,cs⟩);rw[<- Q]at j A;rw[A.J];go_in;go_wp2_with fail;refine j.mono ?_;rintro C w1 ⟨rfl,R⟩;obtain⟨x,ab,z,er,pl,hL,D⟩:=jw I;obtain⟨⟨X,Y,Z,q3,q4⟩,⟨z0,z1,z2,z3,z4⟩,P⟩:=G.J w1 R;have F:=ak P;have H:=ak D;rw[D];go_wp2_with fail;refine aB (by simp[results,results200,go_sem,X,Y,Z,q3,q4];rfl) rfl ?_;exact⟨by rw[<- H.J],F.J _ _ _ _ _⟩
set_option linter.unusedSimpArgs false in
theorem ajL{a b:ω} {lo q q2 q3:Nat} {t t2 t3:TypeId} {fv gv:υ} {ok:List aD->Prop} {j u:List aD->dj} {s:Bool} (hc:dJ a lo fv ok j) (KB:dJ a lo gv ok u) (hF:∀row,ok row->∀c,j row=.inl c->rN c) (hG:∀row,ok row->∀c,u row=.inl c->rN c) (O:ft lo a.heap.size a b) (hq:b.heap[q]?=σ (ξ #[fv] t (0,0))) (Kl:b.heap[q2]?=σ (ξ #[.bool false,ι κ (jL s).n,θ ⟨#[]⟩,ι κ 0,ι κ 0] t2 (0,0))) (LQ:b.heap[q3]?=σ (ξ #[gv] t3 (0,0))) {bv rv:υ} {cs:List (List aD)} {e:List Nat} (hb:eC b bv cs) (Z:gw b rv e) (oR:wU cs e) (hl:e.length<=64) (mQ:∀d∈e,ok (rowOf cs d)) :
 Calls prog 224 #[bv,rv,π (σ ⟨q,0,ν⟩),π (σ ⟨q2,0,ν⟩),π (σ ⟨q3,0,ν⟩)] b λd b'=>∃v,d=τ v/\b'.ownsRow b.heap.size 298 5 v e.length ((e.map λd=>iO s (j (rowOf cs d)) (u (rowOf cs d))).flatMap j7)/\δ b.heap.size b b':=by
 obtain⟨n,cd,rfl,hE,hC⟩:=hc;obtain⟨n1,yH,rfl,bx,a9⟩:=KB;have HC:=hC b O bv cs rv e hb Z oR hl mQ;have V5:=ak (λw (W:δ b.heap.size b w) ov (UZ:List Nat) (h1:gw w ov UZ) (h2:∀d∈UZ,d∈e) (H:UZ.length<=64)=>a9 w (O.below W) bv cs ov UZ (hb.below W (ae _)) h1 (λd h=>oR d (h2 d h)) H (λd h=>mQ d (h2 d h)));have HF:=ak (λd (h:d∈e)=>hF _ (mQ d h));have HG:=ak (λd (h:d∈e)=>hG _ (mQ d h));have HR:=Z;obtain⟨ra,rK,Dv⟩:=bu.slice Z;subst Dv;have aq:=ak Kl;have bl:=ak LQ;have c0:=cell0 hq 0;simp at c0;have Z5:=aw Kl;have Z6:=aw LQ;unfold Enters at hE bx;clear hC a9 O hb Z hq Kl LQ oR mQ hF hG;go_in;go_wp2_with fail;refine HC.mono ?_;rintro D w1 ⟨v,rfl,bS,W⟩;obtain⟨va,dq,rfl,Rr,LP⟩:=cu bS;have bm:Hid (yV b w1 w1 (ψ va e.length dq) s (λd=>j (rowOf cs d)) e 0 (ψ ν 0 0) (ψ ν 0 0)):=ak ⟨bS,by simpa[opens]using gR _ _ _ _,by simpa[opens]using gR _ _ _ _,λk h=>(by cases h),λk h=>(yU bS h).2,W,ae _,W.size⟩;have av:=ak Rr;clear bS W Rr HC c0;go_wp2_with fail;go_loopw[9,10,22] (λc0 c1 c2 wr=>∃(i:Nat) (ao:Option Addr) (co:Nat) (I:Option Addr) (K:Nat),i<=e.length/\c0=ψ ao (opens s (λd=>j (rowOf cs d)) e i).length co/\c1=ψ I (opens s (λd=>j (rowOf cs d)) e i).length K/\c2=ι κ i/\Hid (yV b w1 wr (ψ va e.length dq) s (λd=>j (rowOf cs d)) e i (ψ ao (opens s (λd=>j (rowOf cs d)) e i).length co) (ψ I (opens s (λd=>j (rowOf cs d)) e i).length K))) (λ_ _ c _=>e.length - (intOf c).toNat);case atStart=>exact⟨0,ν,0,ν,0,aK _,rfl,rfl,rfl,bm⟩
 case round=>
  obtain⟨i,ao,co,I,K,hi,rfl,rfl,rfl,Q⟩:=hrel;by_cases cL:i<e.length
  .have ju:(i:Int)<e.length:=by omega
   obtain⟨g,rfl,hg⟩:=av.J (by omega);obtain⟨d,ui⟩:∃d,e[i]?=σ d:=⟨e[i],af cL⟩;have sK:=aA ui;have NY:=ak ui;have kJ:(e.map λd=>j (rowOf cs d))[i]?=σ (j (rowOf cs d)):=by rw[aV,ui];rfl
   have bb:=KJ s (λd=>j (rowOf cs d)) e i;obtain⟨x1,y1,z1,e1,p1,r,-⟩:=jw (j (rowOf cs d));obtain⟨⟨d0,d1,d2,d3,d4⟩,-⟩:=jU Q.J.out kJ r;have ab:Hid (tK s (j (rowOf cs d))=false->opens s (λd=>j (rowOf cs d)) e (i+1)=opens s (λd=>j (rowOf cs d)) e i):=ak λh=>(xj ui).trans (by simp[h]);have ac:=ak sK;clear ui kJ sK;go_wp2_with fail;refine(JC _ _ _).mono ?_;rintro D w2 ⟨rfl,G⟩;have jl:=((ah _ wr).alloc (ae _) (G2 x1 y1 z1 e1 p1)).trans (G.mono (by simp));have A:=Q.J.below jl rfl;obtain⟨a0,a1,a2,a3,a4⟩:=wW ((G.block wr.heap.size (by simp)).trans (au wr _));obtain⟨s0,s1,s2,s3,s4⟩:=wW ((A.sX.block q2 Z5).trans aq.J);clear G d0 d1 d2 d3 d4
   cases hf:j (rowOf cs d)with
   |inr D=>
     have E:=ak (ab.J (by rw[hf];rfl));rw[hf]at r;simp[j7]at r;obtain⟨-,-,-,rfl,-⟩:=r;clear hf;go_wp2_with fail;go_roundw
     case rel=>exact⟨i+1,ao,co,I,K,by omega,by rw[E.J],by rw[E.J],by push_cast;rfl,ak (by have h:=Q.J.below jl E.J;rwa[<- E.J]at h)⟩
     case measure=>simp[intOf];omega
   |inl c=>
     have Y:=HF.J d ac.J c hf;rw[hf]at r;by_cases R:tK s (j (rowOf cs d))=true
     . have T:=ak R
       rw[hf]at R;obtain⟨g2,o2,vN,b0,c4⟩:=gw.get (bu.below HR A.sX (ae _)) NY.J
       cases b0
       have bc:=ak (λw (lx:δ b.heap.size b w)=>gw.get (bu.below HR lx (ae _)) NY.J);clear hf ab;rcases Y with rfl|rfl|rfl<;>cases s<;>first
        | (simp[tK,WG,fD,po]at R;done)
        | (clear R
           simp[j7,fD,po]at r;obtain⟨rfl,rfl,rfl,rfl,rfl⟩:=r;simp[jL,po]at s1;go_wp2_with(at_builtin;refine Uk rfl _ _ 36 rfl (base:=w1.heap.size) underlying36 Tryz.vP ⟨rfl,by decide,by decide⟩ rfl A.op rfl (by simp) rfl ?k5 ?k6 ?k7 ?_)
           case k5=>simp[Value.oneCell']
           case k6=>omega
           case k7=>exact A.sz
           intro g3 WM w3 oG j9 uE;have nF:Hid (δ b.heap.size b w3):=ak ((A.sX.alloc A.sX.size _).grown j9 (by simp;have:=A.sX.size;omega) (λk O=>ag Q.J.bsz (yU A.op O).1));have Ca:Hid (w3.ownsRow w1.heap.size 3 1 (ψ I (opens _ (λd=>j (rowOf cs d)) e i).length K) (opens _ (λd=>j (rowOf cs d)) e i).length ((opens _ (λd=>j (rowOf cs d)) e i).map λp=>mM p.1)):=ak (dH (A.rw'.alloc _) j9 (λk O=>A.sep k O));have aa:Hid (w1.heap.size<=w3.heap.size):=ak (by have:=j9.size;simp at this;have:=A.sz;omega);obtain⟨g4,o4,b6,b2,c5⟩:=bc.J w3 nF.J
           cases b2
           have bi:=ak uE;clear uE;go_wp2_with(at_builtin;refine Uk rfl _ _ 36 rfl (base:=w1.heap.size) underlying36 Tryz.vP ⟨rfl,by decide,by decide⟩ rfl Ca.J rfl (by simp) rfl ?k5 ?k6 ?k7 ?_)
           case k5=>simp[Value.oneCell']
           case k6=>omega
           case k7=>exact aa.J
           intro g5 b7 w5 a5 ax a6;have HN:=A.push NY.J T.J oG j9 (by simpa using bi.J) a5 ax a6;have Wn:Hid ((opens _ (λd=>j (rowOf cs d)) e (i+1)).length=(opens _ (λd=>j (rowOf cs d)) e i).length+1):=ak (by rw[xj NY.J,aF T.J];simp;rfl);clear a5 ax a6;go_wp2_with fail;go_roundw
           case rel=>exact⟨i+1,_,_,_,_,by omega,by rw[Wn.J],by rw[Wn.J],by push_cast;rfl,HN⟩
           case measure=>simp[intOf];omega)
     . have ad:tK s (j (rowOf cs d))=false:=by simpa using R
       have E:=ak (ab.J ad);rw[hf]at ad;clear hf R ab;rcases Y with rfl|rfl|rfl<;>cases s<;>first
        | (simp[tK,WG,fD,po]at ad;done)
        | (clear ad
           simp[j7,fD,po]at r;obtain⟨rfl,rfl,rfl,rfl,rfl⟩:=r;simp[jL,po]at s1;go_wp2_with fail;go_roundw
           case rel=>exact⟨i+1,ao,co,I,K,by omega,by rw[E.J],by rw[E.J],by push_cast;rfl,ak (by have h:=Q.J.below jl E.J;rwa[<- E.J]at h)⟩
           case measure=>simp[intOf];omega)
  obtain rfl:i=e.length:=by omega
  obtain⟨ops,y⟩:=nm (opens s (λd=>j (rowOf cs d)) e e.length);have bb:=KJ s (λd=>j (rowOf cs d)) e e.length;have ac:=ak (λp (h:p∈ops)=>WH (by rw[y]at h;exact h));have be:=(show ops.Pairwise λa b=>a.2<b.2 from by rw[y];exact Ov);have tN:=ak (aaC (s:=s) (F:=λd=>j (rowOf cs d)) (G:=λd=>u (rowOf cs d)) (rows:=e));rw[<- y]at tN bb;have M:=Q.J;have T:Hid (wr.ownsRow w1.heap.size 3 1 (ψ ao ops.length co) ops.length (ops.map λp=>mM p.2)):=ak (by rw[y];exact M.op);have Ca:Hid (wr.ownsRow w1.heap.size 3 1 (ψ I ops.length K) ops.length (ops.map λp=>mM p.1)):=ak (by rw[y];exact M.rw');have a8:=M.out;have bg:=ak M.old;have qg:=M.sX;have aa:=ak M.sz;have b8:=ak M.bsz;rw[<- y];clear M Q y;have c1:=cell0 ((qg.block q3 Z6).trans bl.J) 0;simp at c1;have uA:=V5.J wr qg (ψ I ops.length K) (ops.map Prod.fst) (by have:=bu.eY Ca.J;unfold gw;rw[ig,aQ];exact this) (λd Z=>by obtain⟨p,hp,rfl⟩:=cE.mp Z;exact aA (ac.J p hp).1) (by rw[aQ];omega);rw[aQ,ig]at uA;go_wp2_with fail;refine uA.mono ?_;rintro D w2 ⟨v2,rfl,ER,G⟩;obtain⟨Qt,KC,rfl,Z7,cb⟩:=cu ER;have b9:=ak (ag aa.J G.size);have bo:=ak (cu T.J);obtain⟨N,hN⟩:=nm wr.heap.size;have bd:Hid (w1.heap.size<=N):=ak (by rw[hN];exact aa.J);have bt:Hid (Sx b w1 w2 N va ao Qt dq co KC e.length ops (Ay s (λd=>j (rowOf cs d)) (λd=>u (rowOf cs d)) e (ops.take 0)) (ops.map ((λd=>u (rowOf cs d)) ∘ Prod.fst))):=ak ⟨⟨by rw[lh,aaB];exact cq a8 G,qg.trans (G.mono qg.size)⟩,cq T.J G,by rw[hN];exact ER⟩;have aC:=ak Z7;rw[<- hN]at aC;clear ER G Z7 uA c1 T Ca a8 qg aa;go_wp2_with fail;go_loopw[53] (λc wr=>∃k:Nat,k<=ops.length/\c=ι κ k/\Hid (Sx b w1 wr N va ao Qt dq co KC e.length ops (Ay s (λd=>j (rowOf cs d)) (λd=>u (rowOf cs d)) e (ops.take k)) (ops.map ((λd=>u (rowOf cs d)) ∘ Prod.fst)))) (λc _=>ops.length - (intOf c).toNat);case atStart=>exact⟨0,aK _,rfl,bt⟩
  case round=>
   obtain⟨k,O,rfl,HX⟩:=hrel;by_cases b3:k<ops.length
   .have ca:(k:Int)<ops.length:=by omega
    obtain⟨⟨d,an⟩,U⟩:∃p,ops[k]?=σ p:=⟨ops[k],af b3⟩;obtain⟨V,F⟩:=ac.J _ (aA U);have hj:=(aj.mp V).1;have ci:(an:Int)<e.length:=by omega
    obtain⟨g,rfl,hg⟩:=av.J (by omega);obtain⟨g2,rfl,sC⟩:=aC.J (by omega);obtain⟨cc,ce,b1,bY,-⟩:=bo.J
    cases b1
    obtain⟨g3,rfl,Qx⟩:=bY (by omega);have Ou:g<w1.heap.size:=bg.J g rfl;have cg:=bd.J;have UA:Hid (g≠g3/\g≠g2):=ak ⟨by omega,by omega⟩;have UR:(d,an)∉ops.take k:=λhm=>by
     obtain⟨m,Ar⟩:=dz hm;rw[gd]at Ar;split at Ar
     . obtain⟨h1,h2⟩:=aj.mp Ar
       obtain⟨H,h4⟩:=aj.mp U;have:=List.pairwise_iff_getElem.mp be m k h1 H (by omega);rw[h2,h4]at this;exact bO _ this
     . cases Ar
    have Av:(ops.map ((λd=>u (rowOf cs d)) ∘ Prod.fst))[k]?=σ (u (rowOf cs d)):=by rw[aV,U];rfl
    have yf:ops.take (k+1)=ops.take k++[(d,an)]:=by rw[de,U];rfl
    have Q9:=ak (UM (s:=s) (F:=λd=>j (rowOf cs d)) (G:=λd=>u (rowOf cs d)) V UR);have ap:=ak (Ox (s:=s) (F:=λd=>j (rowOf cs d)) (G:=λd=>u (rowOf cs d)) (ops:=ops.take k) V);have UB:=ak (WI (s:=s) (F:=λd=>j (rowOf cs d)) (G:=λd=>u (rowOf cs d)) V UR);rw[<- yf]at ap UB;obtain⟨x2,y2,z2,e2,p2,C,-⟩:=jw (u (rowOf cs d));obtain⟨x1,y1,z1,e1,p1,r,-⟩:=jw (j (rowOf cs d));obtain⟨⟨d0,d1,d2,d3,d4⟩,-⟩:=jU HX.J.r Av C;have c3:(wr.alloc (G2 x2 y2 z2 e2 p2)).cell? ⟨g3,k,ν⟩=σ (ι κ an):=by rw[(HX.J.o.alloc _).cellAt k (by omega),aV,U];rfl
    have sK:=aA V;have am:=HG.J d sK;have al:=HF.J d sK;have b5:=ak r;clear UR Av yf U V sK;go_wp2_with fail;refine(JC _ _ _).mono ?_;rintro D w3 ⟨rfl,fI⟩;have H:=HX.J.below (((ah _ wr).alloc (ae _) (G2 x2 y2 z2 e2 p2)).trans (fI.mono (by simp)));obtain⟨⟨u0,u1,u2,u3,u4⟩,cf⟩:=jU H.a.own Q9.J r;obtain⟨a0,a1,a2,a3,a4⟩:=wW ((fI.block wr.heap.size (by simp)).trans (au wr _));obtain⟨s0,s1,s2,s3,s4⟩:=wW ((H.a.sX.block q2 Z5).trans aq.J);have bw:=H;have HP:=ak (λ(o:dj) x b4 z D p h=>H.put UA.J.1 UA.J.2 hj o (x:=x) (y:=b4) (z:=z) (e:=D) (p:=p) h);clear fI H d0 d1 d2 d3 d4 c3 HX
    cases hf:j (rowOf cs d)with
    |inr D=>rw[hf]at F;cases F
    |inl c=>
      have Y:=al c hf;rw[hf]at r F;have y:WG s (.inl c)=false:=by simpa[tK]using F
      cases kC:u (rowOf cs d)with
      |inr D=>
        have HQ:=ak (show iO s (j (rowOf cs d)) (u (rowOf cs d))=.inr D by rw[hf,kC];simp[iO,y]);rw[kC]at C;have P:=ak (HP.J (.inr D) _ _ _ _ _ C);rw[<- HQ.J,ap.J]at P;simp[j7]at C;obtain⟨rfl,rfl,rfl,rfl,rfl⟩:=C;clear hf kC F r am al Y y HP;go_wp2_with fail;go_roundw
        case rel=>exact⟨k+1,by omega,by push_cast;rfl,P⟩
        case measure=>simp[intOf];omega
      |inl X=>
        have ba:=am X kC;rw[kC]at C
        cases je:(WG s (.inl X)||!c.null)with
        |true=>
          have HQ:=ak (show iO s (j (rowOf cs d)) (u (rowOf cs d))=.inl X by rw[hf,kC];simp only[iO,y,Bool.false_eq_true,if_false];cases hsd:WG s (.inl X)<;>simp[hsd]at je ⊢;simp[je]);have P:=ak (HP.J (.inl X) _ _ _ _ _ C);rw[<- HQ.J,ap.J]at P;clear hf kC am al y HP;rcases Y with rfl|rfl|rfl<;>rcases ba with rfl|rfl|rfl<;>cases s<;>first
           | (simp[tK,WG,fD,po]at F;done)
           | (simp[WG,fD,po]at je;done)
           | (clear F je
              simp[j7,fD,po]at r C;obtain⟨rfl,rfl,rfl,rfl,rfl⟩:=r;obtain⟨rfl,rfl,rfl,rfl,rfl⟩:=C;simp[jL,po]at s1;go_wp2_with fail;go_roundw
              case rel=>exact⟨k+1,by omega,by push_cast;rfl,P⟩
              case measure=>simp[intOf];omega)
        |false=>
          have P:=ak (UB.J (by simp only[hf,kC,iO,y,Bool.false_eq_true,if_false];cases hsd:WG s (.inl X)<;>simp[hsd]at je ⊢;simp[je]));clear hf kC am al y HP;rcases Y with rfl|rfl|rfl<;>rcases ba with rfl|rfl|rfl<;>cases s<;>first
           | (simp[tK,WG,fD,po]at F;done)
           | (simp[WG,fD,po]at je;done)
           | (clear F je
              simp[j7,fD,po]at r C;obtain⟨rfl,rfl,rfl,rfl,rfl⟩:=r;obtain⟨rfl,rfl,rfl,rfl,rfl⟩:=C;simp[jL,po]at s1;go_wp2_with fail;go_roundw
              case rel=>exact⟨k+1,by omega,by push_cast;rfl,ak (by rw[<- P.J];exact bw)⟩
              case measure=>simp[intOf];omega)
   obtain rfl:k=ops.length:=(by omega);have ho:=HX.J;rw[eV,tN.J]at ho;have Ni:=ak ho.a;clear ho;go_wp2_with fail;go_ret;exact⟨_,rfl,Ni.J.own,Ni.J.sX⟩
section
def abl:Tk->Prop
 |.name s=>0<s.size/\s.size<=8
 |.num n=>n<=9223372036854775807
 |.str s=>s.size<=12/\∀c∈s.data.toList,fq c=true
 |_=>True
def SR(t:Tok):Prop:=abl t.k/\t.pl<=300
def zY(b:Nat):Mode->Prop
 |.live t ts=>(SR t/\b<=t.pl)/\(∀u∈ts,SR u/\t.pl<=u.pl)/\ts.length<=300/\ts.Pairwise (λx y=>x.pl<=y.pl)
 |.dead _ _=>True
variable {b:Nat}
theorem O6(S:ByteArray)(f:UInt8->Bool)(i:Nat):∀d,i<=d->d<aS S f i->∃h:d<S.size,f S[d]=true:=by
 intro d u e;rw[aS]at e;split at e
 . rename_i r
   split at e
   . rename_i hf
     by_cases j:d=i
     . subst j;exact⟨r,hf⟩
     . exact O6 S f (i+1) d (by omega) e
   . omega
 . omega
 termination_by S.size - i
theorem Xt(S:ByteArray)(i:Nat)(h:i<S.size):abl (fN S i h).1:=by unfold fN;split;{rename_i A;have D:=iJ S dh i h A;have j:=fl S dh (i+1);have r:=fV S dh i (by omega);simp only;split;{trivial};split;{trivial};show 0<(S.extract _ _).size/\(S.extract _ _).size<=8;rw[cZ];omega};split;{simp only;split;{trivial};show nK _<=_;omega};split;{simp only;split;{split;{rename_i j r;have E:=fl S fq (i+1);refine⟨?_,λc y=>?_⟩;{show(S.extract _ _).size<=12;rw[cZ];omega};obtain⟨k,d,rfl⟩:=List.getElem_of_mem y;have C:k<(S.extract (i+1) (aS S fq (i+1))).size:=(by rw[<- oP];rw[dO]at d;exact d);rw[cZ]at C;obtain⟨F,u⟩:=O6 S fq (i+1) (i+1+k) (by omega) (by omega);have e:(S.extract (i+1) (aS S fq (i+1))).data.toList[k]=S[i+1+k]:=(by simp[ByteArray.getElem_eq_getElem_data,ByteArray.data_extract]);rw[e];exact u};trivial};trivial};simp only;split<;>trivial
theorem O7(S:ByteArray)(e:S.size<=300)(i:Nat):∀t∈fM S i,SR t:=by
 intro t d;rw[fM]at d;split at d
 . rename_i j
   split at d
   . simp at d;subst d;exact⟨trivial,by show aS S cz i<=300;omega⟩
   . rename_i r
     rw[bF]at d;rcases d with rfl|d
     . exact⟨Xt S _ j,by show aS S cz i<=300;omega⟩
     . have u:=fl S cz i
       have y:=(rF S (aS S cz i) j (by simpa using r)).1;exact O7 S e _ t d
 . simp at d;subst d;exact⟨trivial,e⟩
 termination_by S.size - i
 decreasing_by
 all_goals(simp_wf;omega)
theorem U2(S:ByteArray)(i:Nat)(C:i<=S.size):(∀t∈fM S i,i<=t.pl)/\(fM S i).Pairwise (λx E=>x.pl<=E.pl):=by
 have j:=fl S cz i;rw[fM];split
 . rename_i u
   split
   . exact⟨λt d=>by rw[bj.mp d];exact j,jZ _ _⟩
   . rename_i D
     obtain⟨F,A⟩:=rF S (aS S cz i) u (by simpa using D);obtain⟨r,y⟩:=U2 S (fN S (aS S cz i) u).2 A;exact⟨λt d=>(bF.mp d).elim (λe=>e ▸ j) (λe=>by have:=r t e;omega),bk.mpr ⟨λt d=>by have:=r t d;show aS S cz i<=t.pl;omega,y⟩⟩
 . exact⟨λt d=>by rw[bj.mp d];exact C,jZ _ _⟩
 termination_by S.size - i
 decreasing_by
 all_goals(simp_wf;omega)
theorem ajY{S:ByteArray}(u:S.size<=300):zY 0 (Mode.of (fM S 0)):=by
 have h:=O7 S u 0;have e:=C6 S 0 (aK _);have d:=(U2 S 0 (aK _)).2;revert h e d
 cases fM S 0 with
 |nil=>exactλ_ _ _=>⟨⟨⟨trivial,aK _⟩,aK _⟩,λj d=>by simp at d,by simp,.nil⟩
 |cons t y=>exactλh e d=>⟨⟨h t (by simp),aK _⟩,λj r=>⟨h j (by simp[r]),(bk.mp d).1 j r⟩,by rw[a7]at e;omega,(bk.mp d).2⟩
section
variable {m:Mode} (h:zY b m)
include h
theorem zY.next:zY b m.next:=by
 cases m with
 |dead r b=>trivial
 |live t j=>
   cases j with
   |nil=>exact h
   |cons e u=>exact⟨⟨(h.2.1 e (by simp)).1,ag h.1.2 (h.2.1 e (by simp)).2⟩,λx d=>⟨(h.2.1 x (by simp[d])).1,(bk.mp h.2.2.2).1 x d⟩,by have:=h.2.2.1;rw[a7]at this;omega,(bk.mp h.2.2.2).2⟩
theorem zY.up:zY m.place m:=by
 cases m with
 |dead d b=>trivial
 |live t e=>exact⟨⟨h.1.1,ae _⟩,h.2⟩
theorem zY.len:m.len<=301:=by
 cases m with
 |dead d b=>exact aK _
 |live t e=>exact Nat.succ_le_succ h.2.2.1
theorem zY.place:m.place<=300:=by
 cases m with
 |dead d b=>exact aK _
 |live t e=>exact h.1.1.2
theorem zY.wrong(d:Nat):zY b (m.wrong d):=by cases m<;>trivial
theorem zY.take(s:ByteArray):zY b (m.take s):=by unfold Mode.take;split;{exact h.next};exact h.wrong 2
theorem zY.tk:abl m.tk:=by
 cases m with
 |dead d b=>trivial
 |live t e=>exact h.1.1.1
theorem zY.name:m.name.1.1.size<=8/\m.name.1.2<=300/\zY b m.name.2:=by unfold Mode.name;have d:=h.tk;split;{rename_i x e;rw[e]at d;exact⟨d.2,h.place,h.next⟩};exact⟨aK _,aK _,h.wrong 2⟩
end
abbrev zi{α:Type}(P:α->Prop)(one:Mode->α×Mode):Prop:=∀{b:Nat} (m:Mode),zY b m->P (one m).1/\zY b (one m).2
theorem abm{α:Type}{r:α->Prop}{one:Mode->α×Mode}(C:zi r one):∀n l m,zY b m->(∀x∈l,r x)->l≠[]->(∀x∈(jT one n l m).1,r x)/\(jT one n l m).1≠[]/\zY b (jT one n l m).2:=by
 intro n
 induction n with
 |zero=>exactλl m e d u=>⟨d,u,e⟩
 |succ n D=>
   intro l m e d u;unfold jT;split
   . obtain⟨y,A⟩:=C _ e.next
     exact D _ _ A (λx j=>by
      rw[bP,bj]at j;rcases j with j|rfl
      . exact d x j
      . exact y) (by simp)
   . exact⟨d,u,e⟩
theorem abn{α:Type}(one:Mode->α×Mode):∀n l m,(jT one n l m).1.length<=l.length+n:=by
 intro n
 induction n with
 |zero=>exactλl m=>ae _
 |succ n d=>
   intro l m;unfold jT;split
   . have:=d (l++[(one m.next).1]) (one m.next).2
     rw[az,gX]at this;omega
   . exact Nat.le_add_right _ _
theorem zZ{α:Type}{d:α->Prop}{one:Mode->α×Mode}(r:zi d one){m:Mode}(j:zY b m):(dc one m).1.length<=302:=by have e:=abn one (one m).2.len [(one m).1] (one m).2;have u:=(r m j).2.len;unfold dc;rw[gX]at e;omega
theorem tS{α:Type}{P:α->Prop}{one:Mode->α×Mode}(d:zi P one){m:Mode}(u:zY b m):(∀x∈(dc one m).1,P x)/\(dc one m).1≠[]/\zY b (dc one m).2:=by obtain⟨j,r⟩:=d m u;exact abm d _ _ _ r (λx e=>by simp at e;subst e;exact j) (by simp)
def nw(n:Nm):Prop:=n.1.size<=8/\n.2<=300
theorem mF:zi nw Mode.name:=λ_ h=>⟨⟨h.name.1,h.name.2.1⟩,h.name.2.2⟩
theorem O8:zi (·<=2) qJ:=λm h=>by
 unfold qJ;split
 . exact⟨aK _,h.next⟩
 . split
   . exact⟨by show 1<=2;omega,h.next⟩
   . exact⟨by show 2<=2;omega,h.take _⟩
def afw(c:Nm×Nat):Prop:=nw c.1/\c.2<=2
theorem ME:zi afw tj:=λm h=>⟨⟨(mF m h).1,(O8 _ h.name.2.2).1⟩,(O8 _ h.name.2.2).2⟩
def MF(v:Al):Prop:=(v.null=true/\v.n=0/\v.s=ByteArray.empty)\/(v.null=false/\((v.kind=0/\cK v.n/\v.s=ByteArray.empty)\/(v.kind=1/\v.n=0/\v.s.size<=12/\∀c∈v.s.data.toList,fq c=true)\/(v.kind=2/\(v.n=0\/v.n=1)/\v.s=ByteArray.empty)))
theorem KW:MF Ns:=.inr ⟨rfl,.inl ⟨rfl,by unfold cK Ns;decide,rfl⟩⟩
theorem KX:zi MF jk:=λm h=>by
 unfold jk;split
 . have d:=h.next.tk
   split
   . rename_i n e
     rw[e]at d;have j:n<=9223372036854775807:=d;exact⟨.inr ⟨rfl,.inl ⟨rfl,by unfold cK;simp only;omega,rfl⟩⟩,h.next.next⟩
   . exact⟨KW,h.next.wrong 2⟩
 . have d:=h.tk
   split
   . rename_i n e
     rw[e]at d;have j:n<=9223372036854775807:=d;exact⟨.inr ⟨rfl,.inl ⟨rfl,by unfold cK;simp only;omega,rfl⟩⟩,h.next⟩
   . rename_i s r
     rw[r]at d;exact⟨.inr ⟨rfl,.inr (.inl ⟨rfl,rfl,d.1,d.2⟩)⟩,h.next⟩
   . split
     . exact⟨.inr ⟨rfl,.inr (.inr ⟨rfl,.inr rfl,rfl⟩)⟩,h.next⟩
     . split
       . exact⟨.inr ⟨rfl,.inr (.inr ⟨rfl,.inl rfl,rfl⟩)⟩,h.next⟩
       . split
         . exact⟨.inl ⟨rfl,rfl,rfl⟩,h.next⟩
         . exact⟨KW,h.wrong 2⟩
def Aa(r:uU):Prop:=r.vals≠[]/\(∀v∈r.vals,MF v)/\r.vals.length<=302
theorem U3:zi Aa j6:=λm h=>by
 obtain⟨d,e,j⟩:=tS KX (h.take dA);exact⟨⟨e,d,zZ KX (h.take dA)⟩,j.take _⟩
theorem abo:∀n l m,zY b m->(∀x∈l,Aa x)->l≠[]->(∀x∈(mC n l m).1,Aa x)/\(mC n l m).1≠[]/\zY b (mC n l m).2:=by
 intro n
 induction n with
 |zero=>exactλl m e d r=>⟨d,r,e⟩
 |succ n A=>
   intro l m e d r;unfold mC;split
   . obtain⟨u,y⟩:=U3 m e
     exact A _ _ y (λx j=>by
      rw[bP,bj]at j;rcases j with j|rfl
      . exact d x j
      . exact u) (by simp)
   . exact⟨d,r,e⟩
theorem abp:∀n l m,(mC n l m).1.length<=l.length+n:=by
 intro n
 induction n with
 |zero=>exactλl m=>ae _
 |succ n d=>
   intro l m;unfold mC;split
   . have:=d (l++[(j6 m).1]) (j6 m).2
     rw[az,gX]at this;omega
   . exact Nat.le_add_right _ _
def zj:Ex->Prop
 |.num n=>n<=9223372036854775807
 |.str s=>s.size<=12/\∀c∈s.data.toList,fq c=true
 |.neg _ x=>zj x
 |.not _ x=>zj x
 |.kG _ _ x=>zj x
 |.two _ _ x y=>zj x/\zj y
 |_=>True
def Il:Ex->Prop
 |.col _ a=>a<=300
 |.neg a x=>a<=300/\Il x
 |.not a x=>a<=300/\Il x
 |.kG _ a x=>a<=300/\Il x
 |.two _ a x y=>a<=300/\Il x/\Il y
 |_=>True
def zk(e:Ex):Prop:=zj e/\Il e
theorem O9{o:ByteArray}{a:Nat}{x j:Ex}(r:a<=300)(d:zk x)(e:zk j):zk (.two o a x j):=⟨⟨d.1,e.1⟩,r,d.2,e.2⟩
theorem vX:zk .junk:=⟨trivial,trivial⟩
abbrev Pa{α:Type}(S:Mode->α×Mode):Prop:=∀{b:Nat} (m:Mode),zY b m->zY b (S m).2
abbrev xU(S:Mode->Ex×Mode):Prop:=zi zk S
theorem SS{S:Mode->Ex×Mode}(h:xU S){ops:List ByteArray}:∀n d m,zk d->zY b m->zk (lY S ops n d m).1/\zY b (lY S ops n d m).2:=by
 intro n
 induction n with
 |zero=>exactλd m j e=>⟨j,e⟩
 |succ n y=>
   intro d m j e;unfold lY;split
   . obtain⟨r,u⟩:=h _ e.next
     exact y _ _ (O9 e.place j r) u
   . exact⟨j,e⟩
theorem xv{S:Mode->Ex×Mode}(h:xU S){ops:List ByteArray}:xU (tg S ops):=λm d=>SS h _ _ _ (h m d).1 (h m d).2
def ahx:Option AK->Prop
 |none=>True
 |some l=>xU l.expr/\xU l.Lw/\xU l.turn
section
variable {sub:Option AK} (h:ahx sub)
include h
theorem Xu:xU (jJ sub):=λm d=>by
 unfold jJ;split
 . cases sub with
   |none=>exact⟨vX,d.wrong 3⟩
   |some l=>exact⟨(h.1 _ d.next).1,(h.1 _ d.next).2.take _⟩
 . have e:=d.tk
   split
   . rename_i n j
     rw[j]at e;exact⟨⟨e,trivial⟩,d.next⟩
   . rename_i s r
     rw[r]at e;exact⟨⟨e,trivial⟩,d.next⟩
   . exact⟨⟨trivial,d.place⟩,d.next⟩
   . split
     . exact⟨⟨trivial,trivial⟩,d.next⟩
     . split
       . exact⟨⟨trivial,trivial⟩,d.next⟩
       . exact⟨vX,d.wrong 2⟩
   . exact⟨vX,d.wrong 2⟩
theorem KY:xU (iE sub):=λm d=>by
 unfold iE;split
 . cases sub with
   |none=>exact⟨vX,d.wrong 3⟩
   |some l=>exact⟨⟨(h.2.2 _ d.next).1.1,d.place,(h.2.2 _ d.next).1.2⟩,(h.2.2 _ d.next).2⟩
 . exact Xu h m d
theorem BP:xU (ji sub):=xv (xv (KY h))
theorem Xv:xU (oD sub):=λm e=>by
 have d:=BP h m e;unfold oD;simp only;split
 . exact⟨O9 d.2.place d.1 (BP h _ d.2.next).1,(BP h _ d.2.next).2⟩
 . split
   . refine⟨⟨d.1.1,d.2.place,d.1.2⟩,?_⟩
     split
     . exact d.2.next.next.take _
     . exact d.2.next.take _
   . exact d
theorem KZ:xU (iK sub):=λm d=>by
 unfold iK;split
 . cases sub with
   |none=>exact⟨vX,d.wrong 3⟩
   |some l=>exact⟨⟨(h.2.1 _ d.next).1.1,d.place,(h.2.1 _ d.next).1.2⟩,(h.2.1 _ d.next).2⟩
 . exact Xv h m d
theorem Eo:xU (mO sub):=xv (xv (KZ h))
end
theorem zl:∀d,ahx (lvl d)
 |0=>trivial
 |d+1=>⟨Eo (zl d),KZ (zl d),KY (zl d)⟩
def MG(x:Ex×Nat):Prop:=pz x.1/\zk x.1/\x.2<=300
theorem Ab:zi MG oT:=λm d=>⟨⟨Uy _,(Eo (zl 8) m d).1,d.place⟩,(Eo (zl 8) m d).2⟩
theorem Ac{α:Type}{one:Mode->α×Mode}(h:Pa one):Pa (dc one):=λ_ d=>(tS (P:=λ_=>True) (λm d=>⟨trivial,h m d⟩) d).2.2
theorem Xw:Pa Mode.name:=λ_ d=>d.name.2.2
def ajZ(c:Nm×(Ex×Nat)):Prop:=nw c.1/\MG c.2
theorem E7:zi ajZ eL:=λm d=>⟨⟨(mF m d).1,(Ab _ (d.name.2.2.take xO)).1⟩,(Ab _ (d.name.2.2.take xO)).2⟩
theorem MH:Pa ek:=λm d=>by
 unfold ek;show zY _ (if _ then _ else _);split
 . exact d.name.2.2.next
 . exact d.name.2.2
theorem K0:Pa ku:=λm e=>by
 have d:=e.name.2.2.take xO;unfold ku;simp only;split
 . split
   . exact(d.next.take _).take _
   . exact(d.next.take _).name.2.2.take _
 . split
   . exact((d.wrong 2).take _).take _
   . exact((d.wrong 2).take _).name.2.2.take _
def xw(s:gx):Prop:=s.pl<=300/\(∀x∈s.exprs,MG x)/\(iZ s.word r9=true->(∀n∈s.names,nw n)/\s.names.length<=302/\s.names.zip s.exprs≠[])
theorem SU{m:Mode}(d:zY b m):xw (dp m).1/\zY b (dp m).2:=by
 have j:=d.place;have ν:∀s:gx,s.pl<=300->s.exprs=[]->iZ s.word r9=false->xw s:=λs r u y=>⟨r,λx e=>(by rw[u]at e;cases e),λh=>(by rw[y]at h;cases h)⟩;unfold dp;split;{exact⟨⟨j,λx e=>by rw[bj.mp e];exact(Ab _ d.next).1,λh=>absurd h (show¬iZ kH r9=true by decide)⟩,(Ab _ d.next).2⟩}
 split
 .obtain⟨r,u,y⟩:=tS E7 d.next;refine⟨⟨j,λx e=>?_,λ_=>⟨λx e=>?_,?_,?_⟩⟩,y⟩;{obtain⟨C,A,rfl⟩:=cE.mp e;exact(r C A).2};{obtain⟨C,A,rfl⟩:=cE.mp e;exact(r C A).1};{simp only[List.length_map];exact zZ E7 d.next}
  show List.zip (List.map _ _) (List.map _ _)≠[]
  cases hl:(dc eL m.next).1 with
  |nil=>exact absurd hl u
  |cons a l=>simp
 split;{exact⟨ν _ j rfl (show iZ xP r9=false by decide),((d.next.name.2.2.take yr).name.2.2.take xO).name.2.2⟩};split;{refine⟨ν _ j rfl (show iZ ti r9=false by decide),?_⟩;simp only;split;{exact Ac K0 _ ((Ac Xw _ d.next).take iB)};exact Ac K0 _ (d.next.take iB)};split;{exact⟨ν _ j rfl (show iZ uV r9=false by decide),Ac MH _ d.next⟩};simp only;split;{exact⟨ν _ j rfl (show iZ ej r9=false by decide),(d.take ej).next⟩};exact⟨ν _ j rfl (show iZ ej r9=false by decide),(d.take ej).wrong 2⟩
theorem Im(m:Mode):(dp m).1.pl=m.place:=by unfold dp;split;{rfl};split;{rfl};split;{rfl};split;{rfl};split;{rfl};simp only;split<;>rfl
theorem SW:∀n l m b,zY b m->∃e,(gN n l m).1=l++e/\(∀x∈e,xw x/\b<=x.pl)/\e.length<=n/\e.Pairwise (λx M=>x.pl<=M.pl):=by
 intro n
 induction n with
 |zero=>exactλl m b _=>⟨[],by simp[gN],λx d=>(by cases d),ae _,.nil⟩
 |succ n I=>
   intro l m b A;unfold gN;split
   . rename_i H
     obtain⟨D,E⟩:=SU A.next.up;have u:=Im m.next;have y:b<=m.next.place:=by
      have C:=A.next
      cases m with
      |dead j b=>cases H
      |live t K=>
        cases K with
        |nil=>exact C.1.2
        |cons P Q=>exact C.1.2
     obtain⟨e,F,r,O,G⟩:=I (l++[(dp m.next).1]) _ _ E;exact⟨(dp m.next).1::e,by rw[F];simp,λx d=>(bF.mp d).elim (λj=>j ▸ ⟨D,by rw[u];exact y⟩) (λj=>⟨(r x j).1,ag y (r x j).2⟩),by rw[a7];omega,bk.mpr ⟨λx d=>by rw[u];exact(r x d).2,G⟩⟩
   . exact⟨[],by simp,λx d=>(by cases d),aK _,.nil⟩
theorem abq{m:Mode}(d:zY b m)(s:ByteArray):(m.take s).len<=300:=by
 unfold Mode.take
 cases m with
 |dead r b=>split<;>exact aK _
 |live t e=>
   split
   . cases e with
     |nil=>show 0+1<=300;omega
     |cons u j=>have:=d.2.2.1;rw[a7]at this;show j.length+1<=300;omega
   . exact aK _
def SX:Bi->Prop
 |.create t cols=>nw t/\cols≠[]/\(∀c∈cols,nw c.1/\c.2<=2)/\cols.length<=302
 |.drop t=>nw t
 |.load t rows=>nw t/\rows≠[]/\(∀r∈rows,Aa r)/\rows.length<=302
 |.vB u t cols e _=>nw u/\nw t/\cols≠[]/\(∀n∈cols,nw n)/\cols.length<=302/\pz e
 |.wI u t=>nw u/\nw t
 |.query ss=>∃s r,ss=s::r/\nw s.table/\s.pl<=300/\(∀x∈r,xw x)/\r.length<=300/\ss.Pairwise (λx y=>x.pl<=y.pl)
theorem Pb{m:Mode}(d:zY b m):SX (cD m).1:=by unfold cD;split;{have e:=d.next.name.2.2.take dA;exact⟨(mF _ d.next).1,(tS ME e).2.1,(tS ME e).1,zZ ME e⟩};split;{exact(mF _ d.next).1};split;{obtain⟨e,A⟩:=U3 _ d.next.name.2.2;obtain⟨r,u,-⟩:=abo (j6 m.next.name.2).2.len [(j6 m.next.name.2).1] (j6 m.next.name.2).2 A (λx j=>by simp at j;subst j;exact e) (by simp);have y:=abp (j6 m.next.name.2).2.len [(j6 m.next.name.2).1] (j6 m.next.name.2).2;have C:=A.len;exact⟨(mF _ d.next).1,u,r,by rw[gX]at y;show List.length _<=302;omega⟩};split;{have e:=(d.next.name.2.2.take yr).name.2.2.take dA;exact⟨(mF _ d.next).1,(mF _ (d.next.name.2.2.take yr)).1,(tS mF e).2.1,(tS mF e).1,zZ mF e,Uy _⟩};split;{exact⟨(mF _ d.next).1,(mF _ (d.next.name.2.2.take yr)).1⟩};have e:=(mF _ (d.take kW)).1;obtain⟨D,r,u,y,C⟩:=SW (m.take kW).name.2.len [{ bare kW m.place with table:=(m.take kW).name.1 }] (m.take kW).name.2 m.place (d.up.take kW).name.2.2;exact⟨_,D,r,e,d.place,λx j=>(u x j).1,ag y (ag (dI _) (abq d kW)),by rw[r];exact bk.mpr ⟨λx j=>(u x j).2,C⟩⟩
theorem Pc{S:ByteArray}{c:Bi}(h:iG S=.inl c):SX c:=by unfold iG at h;split at h;{cases h};rename_i d;simp only at h;split at h;{cases h};{cases h;exact Pb (ajY (by omega))};cases h
end
structure Bd (m m':Mode)(n n' k:Nat):Prop where
 hi:k<n'
 gr:n<n'
 bud:n'+m'.len<=n+m.len+m'.due
theorem Bd.len{m m':Mode}{n n' k:Nat}(h:Bd m m' n n' k):m'.len<=m.len:=by have d:=h.gr;have e:=h.bud;have j:=uY m';omega
def PF(f:Nat)(S:Option AK->Mode->Ex×Mode)(d:Nat):Prop:=
 ∀(o:ω×υ) (w:ω) (p:Nat) (c:fQ) (v:υ) (m:Mode) (n:Nat),Rd o w p c v m n->c.deep+d=8->n+m.len<=600->
   Calls prog f #[π (σ ⟨p,0,ν⟩)] w λr w'=>∃(v':υ) (n' k:Nat),r=τ (ι κ k)/\Rd o w' p c v' (S (lvl d) m).2 n'/\Fq p v v' w w'/\Bd m (S (lvl d) m).2 n n' k
theorem or3(a b c:Bool):(a=false/\b=false/\c=false)\/a=true\/(a=false/\b=true)\/(a=false/\b=false/\c=true):=by cases a<;>cases b<;>cases c<;>simp
theorem or2(a b:Bool):(a=false/\b=false)\/a=true\/(a=false/\b=true):=by cases a<;>cases b<;>simp
theorem or1(a:Bool):a=false\/a=true:=by cases a<;>simp
theorem Bd.two{m d e:Mode}{n k:Nat}(a:Bd m d n u k)(r:d.alive)(D:d.next.len+1=d.len)(b:Bd d.next e u X K):Bd m e n (X+1) X:=by have j:=a.bud;have y:=b.bud;have A:=a.gr;have C:=b.gr;rw[rI r]at j;exact⟨by omega,by omega,by omega⟩
theorem xF(e:Nat):(PF 215 iE e->PF 186 AL e)/\(PF 186 AL e->PF 161 ji e)/\(PF 100 iK e->PF 72 AO e)/\(PF 72 AO e->PF 53 mO e):=by
 refine⟨λA=>?_,λA=>?_,λA=>?_,λA=>?_⟩;all_goals
  intro o w p c v m n h T hf;unfold PF at A;first
   | (obtain⟨S,r⟩:=nm (iE (lvl e));obtain⟨u,j⟩:=nm ur;rw[<- r]at A;rw[show AL (lvl e) m=lY S u (S m).2.len (S m).1 (S m).2 from by rw[r,j];rfl];have C:=ak j;clear r j;go_in)
   | (obtain⟨S,r⟩:=nm (AL (lvl e));obtain⟨u,j⟩:=nm tf;rw[<- r]at A;rw[show ji (lvl e) m=lY S u (S m).2.len (S m).1 (S m).2 from by rw[r,j];rfl];have C:=ak j;clear r j;go_in)
   | (obtain⟨S,r⟩:=nm (iK (lvl e));obtain⟨u,j⟩:=nm zJ;rw[<- r]at A;rw[show AO (lvl e) m=lY S u (S m).2.len (S m).1 (S m).2 from by rw[r,j];rfl];have C:=ak j;clear r j;go_in)
   | (obtain⟨S,r⟩:=nm (AO (lvl e));obtain⟨u,j⟩:=nm zK;rw[<- r]at A;rw[show mO (lvl e) m=lY S u (S m).2.len (S m).1 (S m).2 from by rw[r,j];rfl];have C:=ak j;clear r j;go_in)
  go_wp2_with fail;refine(A o w p c v m n h T hf).mono ?_;rintro I w1 ⟨v1,n1,k,rfl,h1,f1,Y⟩;go_wp2_with fail;go_loopw[3] (λa wr=>∃(k:Nat) (v':υ) (m':Mode) (n':Nat) (O:Ex) (f:Nat),a=ι κ k/\Rd o wr p c v' m' n'/\Fq p v v' w wr/\Bd m m' n n' k/\m'.len<=f/\Hid (lY S u f O m'=lY S u (S m).2.len (S m).1 (S m).2)) (λ_ wr=>2000 - lenOf ((wr.cell? ⟨p,19,ν⟩).getD undef));case atStart=>exact⟨k,_,_,_,_,_,rfl,h1,f1,Y,ae _,ak rfl⟩
  case round=>
   obtain⟨W,v',m',n',O,f,rfl,D,Q,E,Ag,M⟩:=hrel;obtain⟨_,t,i,_,_,Z,c4,_,_⟩:=D.cells;first
    | (have H:Hid (u=ur):=C;rcases or3 (m'.is (ByteArray.mk #[42])) (m'.is (ByteArray.mk #[47])) (m'.is (ByteArray.mk #[37]))with⟨d,y,G⟩|d|⟨d,y⟩|⟨d,y,G⟩)
    | (have H:Hid (u=tf):=C;rcases or2 (m'.is (ByteArray.mk #[43])) (m'.is (ByteArray.mk #[45]))with⟨d,y⟩|d|⟨d,y⟩)
    | (have H:Hid (u=zJ):=C;rcases or1 (m'.is (ByteArray.mk #[97,110,100]))with d|d)
    | (have H:Hid (u=zK):=C;rcases or1 (m'.is (ByteArray.mk #[111,114]))with d|d)
   {have X:=ak ((Gz (by rw[C.J];first|(simp[ur,bs,d,y,G];done)|(simp[tf,bs,d,y];done)|(simp[zJ,bs,d];done)|(simp[zK,bs,d];done))).symm.trans M.J);go_wp2_with(go_at_call 35;refine(D.is _).mono ?_;rintro r' w' ⟨rfl,rfl⟩);go_ret;refine⟨v',n',W,rfl,?_⟩;rw[<- X.J];exact⟨D,Q,E⟩};all_goals(obtain⟨K,V,U⟩:∃K,m'.is K=true/\u.find? (λo=>m'.is o)=σ K:=(by rw[C.J];first|exact⟨_,G,by simp[ur,bs,d,y,G]⟩|exact⟨_,y,by simp[ur,bs,d,y]⟩|exact⟨_,d,by simp[ur,bs,d]⟩|exact⟨_,y,by simp[tf,bs,d,y]⟩|exact⟨_,d,by simp[tf,bs,d]⟩|exact⟨_,d,by simp[zJ,bs,d]⟩|exact⟨_,d,by simp[zK,bs,d]⟩);obtain⟨P,e4,e5⟩:=D.live V;obtain⟨f,rfl⟩:∃g,f=g+1:=⟨f - 1,by omega⟩;have uA:=ak (Gy M.J U);have mL:=E.bud;rw[rI P]at mL;clear V U;go_wp2_with(go_at_call 35;refine(D.is _).mono ?_;rintro r' w' ⟨rfl,rfl⟩);refine(D.next e4).mono ?_;rintro I w2 ⟨rfl,h3,f3⟩;clear Z c4;go_wp2_with fail;refine(A o w2 p c v' m'.next n' h3 T (by omega)).mono ?_;rintro I w3 ⟨v3,n3,aa,rfl,h4,f4,F⟩;have fI:=F.bud;have cL:=F.gr;have am:=E.hi;have ad:=uY (S m'.next).2;have al:=F.len;go_wp2_with fail;refine(h4.two _ _ W aa (by omega) (by omega)).mono ?_;rintro I w4 ⟨v4,rfl,R,f5⟩;have B:=E.two P e5 F;have ac:=R.amx;have ab:=D.amx;go_wp2_with fail;go_roundw;(case rel=>exact⟨n3,v4,_,_,_,f,rfl,R,Q.trans (f3.trans (f4.trans f5)),B,by omega,uA⟩);case measure=>rw[ac,ab];omega)
theorem Ls(d:Nat)(e:PF 215 iE d):PF 186 AL d:=(xF d).1 e
theorem Lt(d:Nat)(e:PF 186 AL d):PF 161 ji d:=(xF d).2.1 e
theorem P9(d:Nat)(e:PF 100 iK d):PF 72 AO d:=(xF d).2.2.1 e
theorem Qa(d:Nat)(e:PF 72 AO d):PF 53 mO d:=(xF d).2.2.2 e
theorem ib.grown{w w':ω}{p:Nat}{x:fQ}{m:Mode}{ns:List kB}{row:Option Nat}(h:ib d w p x m ns)(r:w.grownBy w' row)(u:∀g,row=σ g->g≠p/\x.nodes.ownBlock≠σ g/\¬d g):ib d w' p x m ns/\aX d w w':=by
 have j:aX d w w':=(aX.refl d w).grown r h.old (λk e=>(u k e).2.2);have y:=h.pen.lt;refine⟨⟨h.pen.jM (r.block p y (λe=>(u p e.symm).1 rfl)),?_,h.p0,h.Bp,h.pos,h.tk,h.tn,h.tp,h.mode,h.own.kept r ?_,h.apart,h.k0,h.kp,h.kv,λk A=>ai (h.old k A) j.size⟩,j⟩;{intro i s C;exact(j.cell (p:=(Ad 0 i)) h.k0).trans (h.laid i s C)}
 cases row with
 |none=>cases hb:x.nodes.ownBlock<;>simp
 |some g=>exact .inr (u g rfl).2.1
theorem ib.field{w:ω}{p:Nat}{x e:fQ}{m:Mode}{ns:List kB}(h:ib d w p x m ns)(i:Nat)(v:υ)(Q:(iL x).setIfInBounds i v=iL e)(G:(e.S,e.pos,e.tk,e.tt,e.tp,e.tn,e.e,e.bad,e.nodes)=(x.S,x.pos,x.tk,x.tt,x.tp,x.tn,x.e,x.bad,x.nodes)) :
 ib d (w.setCell (Ad p i) v) p e m ns/\aX d w (w.setCell (Ad p i) v):=by
 simp only[Prod.mk.injEq]at G;obtain⟨j,F,K,T,I,H,D,P,A⟩:=G;have C:aX (Other p w) w (w.setCell (Ad p i) v):=(aX.refl _ _).own i _;refine⟨⟨h.pen.set i v Q,h.laid.keeps C h.p0,h.p0,by rw[j];exact h.Bp,by rw[j,F];exact h.pos,by rw[K];exact h.tk,by rw[H];exact h.tn,by rw[j,I];exact h.tp,?_,by rw[A];exact h.own.kept (grownBy_setCell w (Ad p i) v) (.inr h.apart),by rw[A];exact h.apart,h.k0,h.kp,by rw[A];exact h.kv,λk R=>by simpa[World.setCell]using h.old k R⟩,C.mono h.other⟩;have E:=h.mode
 cases m with
 |dead U b=>obtain⟨r,u,y⟩:=E;exact⟨by rw[D];exact r,by rw[P];exact u,y⟩
 |live t V=>obtain⟨r,u,y,M,O⟩:=E;exact⟨by rw[D];exact r,by rw[K,T,H];exact u,by rw[I];exact y,by rw[j,F];exact M,O⟩
inductive Item where
 | box (b:Nat) (cs:Array υ) (t:TypeId)
 | row (s:υ) (t:TypeId) (z q:Nat)
def Item.eW:Item->Option Nat
 |.box b _ _=>σ b
 |.row s _ _ _=>s.ownBlock
def Item.ok(lo:Nat)(w:ω):Item->Prop
 |.box b cs t=>w.heap[b]?=σ (ξ cs t (0,0))/\lo<=b
 |.row s t z q=>∃xs,w.ownsRow lo t z s q xs
structure St (o:ω×υ)(w:ω)(p:Nat)(c:fQ)(v:υ)(m:Mode)(n:Nat)(L:List Item):Prop where
 rd:Rd o w p c v m n
 ok:∀a∈L,a.ok o.1.heap.size w/\∀g,a.eW=σ g->g≠p/\v.ownBlock≠σ g
 ap:L.Pairwise λa b=>∀g,a.eW=σ g->b.eW≠σ g
section
variable {o:ω×υ} {w w':ω} {p b lo g cap q z:Nat} {c c':fQ} {v v' s:υ} {m m':Mode} {n n':Nat} {L:List Item} {a:Item} {cs:Array υ} {t:TypeId} {xs:List υ}
theorem Item.ok.move(h:a.ok lo w)(d:∀g,a.eW=σ g->w'.heap[g]?=w.heap[g]?):a.ok lo w':=by
 cases a with
 |box b cs t=>exact⟨(d b rfl).trans h.1,h.2⟩
 |row s t z q=>
   obtain⟨xs,h⟩:=h;refine⟨xs,h.1,?_⟩;rcases h.2 with j|⟨g,cap,cur,e,u,r,y⟩
   . exact .inl j
   . exact .inr ⟨g,cap,cur,e,u,(d g (by show s.ownBlock=_;rw[e];rfl)).trans r,y⟩
theorem Item.ok.lt(h:a.ok lo w)(d:a.eW=σ g):g<w.heap.size/\lo<=g:=by
 cases a with
 |box b cs t=>cases d;exact⟨(cW.mp h.1).1,h.2⟩
 |row s t z q=>obtain⟨xs,h⟩:=h;exact⟨(h.lt g d).2,(h.lt g d).1⟩
theorem Rd.away(h:Rd o w p c v m n)(e:w.heap.size<=b):b≠p/\v.ownBlock≠σ b:=by obtain⟨x,ns,q,_,rfl,_⟩:=h.ex;have:=q.pen.lt;exact⟨by omega,λd=>by have:=(q.own.lt b d).2;omega⟩
theorem Rd.put(h:Rd o w p c v m n)(r:o.1.heap.size<=b)(e:b≠p)(j:v.ownBlock≠σ b)(i:Nat)(u:υ):Rd o (w.setCell (Ad b i) u) p c v m n:=by obtain⟨x,ns,q,y,rfl,rfl⟩:=h.ex;have C:=h.lo;have A:=(q.less (K':=λk=>YS p x.nodes w k/\k≠b) (λ_ d=>d.1) ⟨q.k0,by omega⟩).put e j (λd=>d.2 rfl) i u;exact⟨⟨x,ns,A.more ⟨by simpa[World.setCell]using q.k0.1,q.k0.2.1,q.k0.2.2⟩ (λk d=>.inr ⟨d.2.1,d.2.2,d.1⟩),y,rfl,rfl⟩,⟨h.fr.keeps.setCell (p:=(Ad b i)) (λd=>Nat.not_lt.mpr r d.1) u,h.fr.own⟩,h.lo⟩
theorem Rd.grown{row:Option Nat}(h:Rd o w p c v m n)(r:w.grownBy w' row)(j:∀g,row=σ g->o.1.heap.size<=g/\g≠p/\v.ownBlock≠σ g):Rd o w' p c v m n:=by obtain⟨x,ns,q,u,rfl,rfl⟩:=h.ex;have A:=h.lo;obtain⟨y,_⟩:=(q.less (K':=λk=>YS p x.nodes w k/\row≠σ k) (λ_ d=>d.1) ⟨q.k0,λe=>by have:=j 0 e;omega⟩).grown r (λg e=>⟨(j g e).2.1,(j g e).2.2,λd=>d.2 e⟩);exact⟨⟨x,ns,y.more ⟨ai q.k0.1 r.size,q.k0.2.1,q.k0.2.2⟩ (λk d=>.inr ⟨d.2.1,d.2.2,d.1⟩),u,rfl,rfl⟩,⟨h.fr.keeps.grown r (λk d=>ai d.1 h.fr.keeps.size) (λk e d=>by have:=(j k e).1;have:=d.1;omega),h.fr.own⟩,h.lo⟩
theorem Rd.fld(h:Rd o w p c v m n)(i:Nat)(e:υ)(C:∀x,LA c x->∃d,(iL x).setIfInBounds i e=iL d/\LA c' d/\(d.S,d.pos,d.tk,d.tt,d.tp,d.tn,d.e,d.bad,d.nodes)=(x.S,x.pos,x.tk,x.tt,x.tp,x.tn,x.e,x.bad,x.nodes)) :
 Rd o (w.setCell (Ad p i) e) p c' v m n/\Fq p v v w (w.setCell (Ad p i) e):=by
 obtain⟨x,ns,q,A,rfl,rfl⟩:=h.ex;obtain⟨d,u,r,j⟩:=C x A;obtain⟨E,D⟩:=q.field i e u j;have y:d.nodes=x.nodes:=by simp only[Prod.mk.injEq]at j;exact j.2.2.2.2.2.2.2.2
 exact y ▸ h.GA r E D
theorem St.call(S:St o w p c v m n L)(h:Rd o w' p c' v' m' n')(f:Fq p v v' w w'):St o w' p c' v' m' n' L:=
 ⟨h,λa j=>by
  obtain⟨k,q⟩:=S.ok a j;exact⟨k.move λg d=>f.keeps.block g ⟨(k.lt d).1,q g d⟩,λg d=>⟨(q g d).1,λe=>(f.own g e).elim (q g d).2 (by have:=(k.lt d).1;omega)⟩⟩,S.ap⟩
theorem St.below(S:St o w p c v m n L)(b:δ w.heap.size w w'):St o w' p c v m n L:=S.call (S.rd.below b) (Fq.below b)
theorem St.alloc(S:St o w p c v m n L)(d:Obj):St o (w.alloc d) p c v m n L:=S.below ((ah _ _).alloc (ae _) d)
theorem St.cons(S:St o w p c v m n L)(h:a.ok o.1.heap.size w/\∀g,a.eW=σ g->g≠p/\v.ownBlock≠σ g)(r:∀g,a.eW=σ g->∀b∈L,b.eW≠σ g):St o w p c v m n (a::L):=
 ⟨S.rd,λu d=>by rcases bF.mp d with rfl|d;exact h;exact S.ok _ d,bk.mpr ⟨λb e g j=>r g j b e,S.ap⟩⟩
theorem St.new(S:St o w p c v m n L)(cs:Array υ)(t:TypeId):St o (w.alloc (ξ cs t)) p c v m n (.box w.heap.size cs t::L):=by refine(S.alloc _).cons ⟨⟨au w _,S.rd.fr.keeps.size⟩,λg d=>?_⟩ (λg d b j e=>?_);{cases d;exact S.rd.away (ae _)};cases d;have:=((S.ok b j).1.lt e).1;omega
theorem St.vm(S:St o w p c v m n L)(d:Array υ)(e:TypeId)(c2:Array υ)(j:TypeId):St o ((w.alloc (ξ d e)).alloc (ξ c2 j)) p c v m n (.box (w.heap.size+1) c2 j::.box w.heap.size d e::L):=by have h:=(S.new d e).new c2 j;rwa[show(w.alloc (ξ d e)).heap.size=w.heap.size+1 from by simp]at h
theorem St.Qb(S:St o w p c v m n L)(d:Array υ)(e:TypeId)(c2:Array υ)(j:TypeId)(r:Array υ)(u:TypeId):St o (((w.alloc (ξ d e)).alloc (ξ c2 j)).alloc (ξ r u)) p c v m n (.box (w.heap.size+1+1) r u::.box (w.heap.size+1) c2 j::.box w.heap.size d e::L):=by have h:=(S.vm d e c2 j).new r u;rwa[show((w.alloc (ξ d e)).alloc (ξ c2 j)).heap.size=w.heap.size+1+1 from by simp]at h
theorem St.nil(S:St o w p c v m n L)(t:TypeId)(z:Nat):St o w p c v m n (.row (ψ ν 0 0) t z 0::L):=
 S.cons ⟨⟨[],gR _ _ _ _⟩,λg d=>by cases d⟩ (λg d=>by cases d)
theorem St.lO(S:St o w p c v m n (a::L)):St o w p c v m n (L++[a]):=
 ⟨S.rd,λd j=>S.ok d (by simpa[or_comm]using j),by
  have h:=bk.mp S.ap;exact jS.mpr ⟨h.2,jZ _ _,λx u A y g r e=>by cases bj.mp y;exact h.1 x u g e r⟩⟩
theorem St.drop(S:St o w p c v m n (a::L)):St o w p c v m n L:=⟨S.rd,λa d=>S.ok a (cy _ d),(bk.mp S.ap).2⟩
theorem St.put(S:St o w p c v m n (.box b cs t::L))(i:Nat)(u:υ):St o (w.setCell (Ad b i) u) p c v m n (.box b (cs.setIfInBounds i u) t::L):=by obtain⟨⟨D,j⟩,e⟩:=S.ok _ (dv ..);have h:=bk.mp S.ap;refine⟨S.rd.put j (e b rfl).1 (e b rfl).2 i u,λa d=>?_,bk.mpr h⟩;rcases bF.mp d with rfl|d;{exact⟨⟨aN w b i _ _ u D,j⟩,e⟩};obtain⟨A,C⟩:=S.ok a (cy _ d);exact⟨A.move λg y=>ay _ _ _ _ (λr=>h.1 a d b rfl ((show g=b from r) ▸ y)),C⟩
theorem St.app(S:St o w p c v m n (.row s t z q::L))(G:w'.ownsRow o.1.heap.size t z (ψ (σ (Ad g 0)) u cap) u xs)(A:w.grownBy w' s.ownBlock)(d:s.ownBlock=σ g\/w.heap.size<=g) :
 St o w' p c v m n (.row (ψ (σ (Ad g 0)) u cap) t z u::L):=by obtain⟨I,D⟩:=S.ok _ (dv ..);have h:=bk.mp S.ap;have F:=S.rd.grown A (λg e=>⟨(I.lt e).2,D g e⟩);refine⟨F,λa y=>?_,bk.mpr ⟨λb E r j e=>?_,h.2⟩⟩;{rcases bF.mp y with rfl|y;{refine⟨⟨_,G⟩,λr j=>?_⟩;cases j;rcases d with d|d;{exact D g d};exact S.rd.away d};obtain⟨C,H⟩:=S.ok a (cy _ y);exact⟨C.move λr j=>A.block r (C.lt j).1 (λe=>h.1 a y r e.symm j),H⟩};cases j;rcases d with d|d;{exact h.1 b E g d e};exact absurd ((S.ok b (cy _ E)).1.lt e).1 (Nat.not_lt.mpr d)
theorem St.box(S:St o w p c v m n (.box b cs t::L)):w.heap[b]?=σ (ξ cs t (0,0)):=(S.ok _ (dv ..)).1.1
theorem St.row(S:St o w p c v m n (.row s t z q::L)):∃xs,w.ownsRow o.1.heap.size t z s q xs:=(S.ok _ (dv ..)).1
theorem St.slice(S:St o w p c v m n (.row s t z q::L)):∃a d,s=ψ a q d:=by obtain⟨xs,h⟩:=S.row;rcases h.2 with⟨j,e⟩|⟨g,cap,_,r,_⟩;{exact⟨_,_,by rw[j,e]⟩};exact⟨_,_,r⟩
theorem St.one(S:St o w p c v m n (.box b cs t::L))(j:cs.size=z):St o w p c v m n (.row (ψ (σ (Ad b 0)) 1 1) t z 1::L):=by obtain⟨⟨r,u⟩,y⟩:=S.ok _ (dv ..);exact S.drop.cons ⟨⟨cs.toList,by simpa using j,.inr ⟨b,1,cs,rfl,u,r,by omega,by decide,by omega,by rw[aI (by simp;omega)]⟩⟩,λg d=>by cases d;exact y b rfl⟩ (λg d a e=>by cases d;exact(bk.mp S.ap).1 a e b rfl)
theorem Rd.start(h:Rd o w p c v m n):St (w,v) w p c v m n []:=⟨⟨h.ex,Fq.refl p v w,h.lt⟩,(λ_ h=>by cases h),.nil⟩
theorem St.fin(S:St (w,v) w' p c' v' m' n' L)(h:Rd o w p c v m n):Rd o w' p c' v' m' n'/\Fq p v v' w w':=⟨⟨S.rd.ex,h.fr.trans S.rd.fr,h.lo⟩,S.rd.fr⟩
theorem uP{a b c:υ}(h:w.heap[u]?=σ (ξ #[a,b,c,y,e] t (0,0))) :
 w.cell? (Ad u 0)=σ a/\w.cell? (Ad u 1)=σ b/\w.cell? (Ad u 2)=σ c/\w.cell? (Ad u 3)=σ y/\w.cell? (Ad u 4)=σ e:=by simp[World.cell?,h]
theorem jW{a b:υ}(h:w.heap[u]?=σ (ξ #[a,b] t (0,0))):w.cell? (Ad u 0)=σ a/\w.cell? (Ad u 1)=σ b:=by simp[World.cell?,h]
theorem bX(h:w.heap[u]?=σ (ξ cs t (0,0)))(i:Nat):w.frozen? (Ad u i)=false:=by simp[World.frozen?,h]
end
section
variable {o:ω×υ} {w w' w'':ω} {p:Nat} {c x x':fQ} {v v' v'':υ} {m m':Mode} {n n' k:Nat} {ns:List kB}
theorem Rd.avZ(h:Rd o w p c v m n)(e:Nat):Rd o (w.setCell (Ad p 8) (ι κ e)) p { c with deep:=e } v m n/\Fq p v v w (w.setCell (Ad p 8) (ι κ e)):=by obtain⟨x,ns,q,d,rfl,rfl⟩:=h.ex;have j:aX (Other p w) w (w.setCell (Ad p 8) (ι κ e)):=(aX.refl _ _).own 8 _;refine h.GA (x':={ x with deep:=e }) ⟨rfl,d.word,d.names,d.kinds,d.rows,d.eQ,d.form⟩ ⟨q.pen.set 8 _ (by simp[iL]),q.laid.keeps j q.p0,q.p0,q.Bp,q.pos,q.tk,q.tn,q.tp,?_,q.own.kept (grownBy_setCell w (Ad p 8) _) (.inr q.apart),q.apart,q.k0,q.kp,q.kv,λk r=>by simpa[World.setCell]using q.old k r⟩ (j.mono q.other);have:=q.mode;cases m<;>exact this
theorem Rd.up(h:Rd o w p { c with deep:=c.deep+1 } v m n):w.cell? (Ad p 8)=σ (ι κ ((c.deep:Int)+1))/\w.frozen? (Ad p 8)=false/\Rd o (w.setCell (Ad p 8) (ι κ c.deep)) p c v m n/\Fq p v v w (w.setCell (Ad p 8) (ι κ c.deep)):=by obtain⟨x,ns,q,e,_⟩:=h.ex;have d:x.deep=c.deep+1:=e.deep;exact⟨(q.pen.cell 8).trans (by show σ (Value.int κ (x.deep:Int))=_;rw[d];rfl),q.pen.fz 8,h.avZ c.deep⟩
theorem Bd.dead(h:¬m'.alive):Bd m m' n (n+1) n:=⟨by omega,by omega,by rw[(oV h).1,(oV h).2];omega⟩
theorem Bd.over(h:Bd m.next m' n n' k)(j:m.next.len+1=m.len):Bd m m' n (n'+1) n':=by have d:=h.bud;have e:=h.gr;exact⟨by omega,by omega,by omega⟩
theorem Rd.acW(h:Rd o w p c v m n)(r:k<n):∃g cap,v=ψ (σ (Ad g 0)) n cap/\w.cell? (Ad p 19)=σ (ψ (σ (Ad g 0)) n cap)/\g≠p/\w.frozen? (Ad g (k*7+2))=false/\∃i:Nat,w.cell? (Ad g (k*7+2))=σ (ι κ i):=by obtain⟨x,ns,q,u,rfl,rfl⟩:=h.ex;obtain⟨g,cap,d,j⟩:=q.slice (by omega);refine⟨g,cap,d,(q.pen.cell 19).trans (by rw[<- d];rfl),λe=>q.apart (by rw[d,e];rfl),by have:=q.own;rw[d]at this;exact this.frozenAt _,_,(j _ (by omega)).trans (Ck ns k _ (af r))⟩
end
theorem age{s:Option AK}{m:Mode}(h:m.is p8=false):iE s m=jJ s m:=aE (by rw[h];decide)
theorem agf{s:Option AK}{m:Mode}(h:m.is DC=false):iK s m=oD s m:=aE (by rw[h];decide)
theorem Gr(d:Nat):(PF 239 jJ 0->PF 215 iE 0)/\(PF 239 jJ (d+1)->PF 215 iE d->PF 215 iE (d+1))/\(PF 133 oD 0->PF 100 iK 0)/\(PF 133 oD (d+1)->PF 100 iK d->PF 100 iK (d+1)):=by
 refine⟨λe=>?_,λe y=>?_,λe=>?_,λe y=>?_⟩;all_goals
  intro o w p c v m n h P hf;obtain⟨_,_,i,_,_,_,Y,_,_⟩:=h.cells;(first|(have X:PF 239 jJ _:=e;cases AU:m.is (ByteArray.mk #[45]))|cases AU:m.is (ByteArray.mk #[110,111,116]));all_goals
   first
    |go_in
    |go_in
   go_wp2_with(go_at_call 35;refine(h.is _).mono ?_;rintro r' w' ⟨rfl,rfl⟩);first
    | (refine(e o w p c v m n h P hf).mono ?_
       rintro j w1 ⟨U,R,k,rfl,q⟩;go_wp2_with fail;go_ret
       first|rw[age AU]|rw[agf AU]
       exact⟨U,R,k,rfl,q⟩)
    | (refine(h.NC (by omega)).mono ?_
       rintro j w1 ⟨rfl,u,r⟩;go_wp2_with fail;refine(u.node ⟨⟨#[]⟩,0,0,0,0,0,⟨#[]⟩⟩ (by omega)).mono ?_;rintro j w2 ⟨V,rfl,I,E⟩;go_wp2_with fail;go_ret
       first|rw[show iE (lvl 0) m=(.junk,m.wrong 3)from aF AU]|rw[show iK (lvl 0) m=(.junk,m.wrong 3)from aF AU]
       exact⟨V,_,n,rfl,I,r.trans E,Bd.dead (di m 3)⟩)
    | (obtain⟨e3,C,D⟩:=h.live AU
       refine(h.down C (by omega)).mono ?_;rintro j w1 ⟨rfl,u,r⟩;go_wp2_with fail;refine(y o w1 p _ v m.next n u (by show c.deep+1+d=8;omega) (by omega)).mono ?_;rintro j w3 ⟨v3,T,Q,rfl,K,F,A⟩;obtain⟨Z,z8,M,G⟩:=K.up;have hb:=A.bud;have aa:=And.intro (uY (iE (lvl d) m.next).2) (uY (iK (lvl d) m.next).2);go_wp2_with fail;refine(M.node ⟨_,i,i,Q,0,0,⟨#[]⟩⟩ (by omega)).mono ?_;rintro j w5 ⟨W,rfl,O,H⟩;go_wp2_with fail;go_ret
       first
        |rw[show iE (lvl (d+1)) m=(.neg m.place (iE (lvl d) m.next).1,(iE (lvl d) m.next).2)from aF (show m.is p8=true from AU)]
        |rw[show iK (lvl (d+1)) m=(.not m.place (iK (lvl d) m.next).1,(iK (lvl d) m.next).2)from aF (show m.is DC=true from AU)]
       exact⟨W,_,T,rfl,O,r.trans (F.trans (G.trans H)),A.over D⟩)
theorem or6(a b c d e f:Bool):(a=false/\b=false/\c=false/\d=false/\e=false/\f=false)\/a=true\/(a=false/\b=true)\/(a=false/\b=false/\c=true)\/(a=false/\b=false/\c=false/\d=true)\/(a=false/\b=false/\c=false/\d=false/\e=true)\/(a=false/\b=false/\c=false/\d=false/\e=false/\f=true):=by cases a<;>cases b<;>cases c<;>cases d<;>cases e<;>cases f<;>simp
theorem acX{sub:Option AK}{m:Mode}{o:ByteArray}(h:ll.find? (λo=>(ji sub m).2.is o)=σ o):(oD sub m).2=(ji sub (ji sub m).2.next).2:=by unfold oD;simp only;rw[h]
theorem acY{sub:Option AK}{m:Mode}(h:ll.find? (λo=>(ji sub m).2.is o)=ν):(oD sub m).2=if(ji sub m).2.is kIs then(if(ji sub m).2.next.is DC then(ji sub m).2.next.next else(ji sub m).2.next).take uq else(ji sub m).2:=by unfold oD;simp only;rw[h];simp only;split<;>rfl
theorem Qc(u:Nat)(hl:PF 161 ji u):PF 133 oD u:=by
 intro o w p c v m n h0 hd hf;go_in;go_wp2_with fail;refine(hl o w p c v m n h0 hd hf).mono ?_;rintro A w1 ⟨v1,P,k,rfl,h,V,C⟩;obtain⟨_,t,i,_,_,c3,c4,_,_⟩:=h.cells;have R:∀o,ll.find? (λo=>(ji (lvl u) m).2.is o)=σ o->Hid ((oD (lvl u) m).2=_):=λo M=>ak (acX M);have Q:ll.find? (λo=>(ji (lvl u) m).2.is o)=ν->Hid ((oD (lvl u) m).2=_):=λa=>ak (acY a);generalize (ji (lvl u) m).2=d at *;have ab:=C.hi;have cx:=C.bud;have ad:=uY d;rcases or6 (d.is (ByteArray.mk #[61])) (d.is (ByteArray.mk #[60,62])) (d.is (ByteArray.mk #[60])) (d.is (ByteArray.mk #[60,61])) (d.is (ByteArray.mk #[62])) (d.is (ByteArray.mk #[62,61]))with⟨e,j,r,y,E,O⟩|e|⟨e,j⟩|⟨e,j,r⟩|⟨e,j,r,y⟩|⟨e,j,r,y,E⟩|⟨e,j,r,y,E,O⟩
 .have F:=Q (by simp[ll,bs,e,j,r,y,E,O]);clear R Q;cases i6:d.is (ByteArray.mk #[105,115]);{go_wp2_with(go_at_call 35;refine(h.is _).mono ?_;rintro Y w' ⟨rfl,rfl⟩);go_ret;refine⟨v1,P,k,rfl,?_⟩;rw[F.J,aE (by show¬d.is (ByteArray.mk #[105,115])=true;rw[i6];decide)];exact⟨h,V,C⟩}
  obtain⟨G,U,e5⟩:=h.live i6;have HE:=ak (F.J.trans (aF i6));rw[rI G]at cx;go_wp2_with(go_at_call 35;refine(h.is _).mono ?_;rintro Y w' ⟨rfl,rfl⟩);refine(h.next U).mono ?_;rintro A w2 ⟨rfl,D,W⟩;clear c3 c4;go_wp2_with fail;refine(D.is _).mono ?_;rintro Y w' ⟨rfl,rfl⟩;cases i7:d.next.is (ByteArray.mk #[110,111,116]);(case' true=>obtain⟨q3,q4,q5⟩:=D.live i7;go_wp2_with fail;refine(D.next q4).mono ?_;rintro A w3 ⟨rfl,I,H⟩);(case' false=>have I:=D;have H:=Fq.refl p v1 w2);all_goals
   have aa:=ak (HE.J.trans (bn (λm=>Mode.take uq m) (by first|exact aF i7|exact aE (by show¬d.next.is (ByteArray.mk #[110,111,116])=true;rw[i7];decide))));go_wp2_with fail;refine(I.take _).mono ?_;rintro A w4 ⟨_,rfl,K,X⟩;obtain⟨g,cap,hv,am,Uq,zf,fi,cf⟩:=K.acW ab;have g1:(k:Int)<P:=(by omega);clear hv;go_wp2_with fail;refine(K.node ⟨_,i,fi,k,0,0,⟨#[]⟩⟩ (by omega)).mono ?_;rintro A w5 ⟨v5,rfl,h5,f5⟩;go_wp2_with fail;go_ret;refine⟨v5,_,P,rfl,by rw[aa.J];exact h5,V.trans (W.trans (H.trans (X.trans f5))),?_⟩;rw[aa.J];have hx:=dr (m:=d.next);have kC:=C.gr;refine⟨by omega,by omega,?_⟩;first
    | (have ht:=take_len d.next uq;omega)
    | (have ht:=take_len d.next.next uq;omega)
 all_goals(obtain⟨Z,it,M⟩:∃Z,d.is Z=true/\ll.find? (λo=>d.is o)=σ Z:=(by first|exact⟨_,O,by simp[ll,bs,e,j,r,y,E,O]⟩|exact⟨_,E,by simp[ll,bs,e,j,r,y,E]⟩|exact⟨_,y,by simp[ll,bs,e,j,r,y]⟩|exact⟨_,r,by simp[ll,bs,e,j,r]⟩|exact⟨_,j,by simp[ll,bs,e,j]⟩|exact⟨_,e,by simp[ll,bs,e]⟩);have F:=R _ M;obtain⟨G,U,e5⟩:=h.live it;clear R Q it M;have mL:=C.bud;rw[rI G]at mL;go_wp2_with(go_at_call 35;refine(h.is _).mono ?_;rintro Y w' ⟨rfl,rfl⟩);refine(h.next U).mono ?_;rintro A w2 ⟨rfl,D,W⟩;clear c3 c4;go_wp2_with fail;refine(hl o w2 p c v1 d.next P D hd (by omega)).mono ?_;rintro A w3 ⟨v3,n3,ac,rfl,I,H,T⟩;have fI:=T.bud;have cL:=T.gr;have al:=uY (ji (lvl u) d.next).2;go_wp2_with fail;refine(I.two _ _ k ac (by omega) (by omega)).mono ?_;rintro A w4 ⟨v4,rfl,K,X⟩;go_wp2_with fail;go_ret;refine⟨v4,n3+1,n3,rfl,?_⟩;rw[F.J];exact⟨K,V.trans (W.trans (H.trans X)),C.two G e5 T⟩)
theorem Tryz.Dr:(prog.info? 34).map (λi=>(i.zero,i.size,i.bytes))=σ (σ (χ #[θ ByteArray.empty,ι κ 0]),2,24):=by kernel_rfl
section
variable {o:ω×υ} {w w':ω} {p:Nat} {c:fQ} {v:υ} {m:Mode} {n:Nat}
theorem Rd.kind(h:Rd o w p c v m n):Calls prog 50 #[π (σ ⟨p,0,ν⟩)] w λe w'=>
 ∃k:Nat,e=τ (ι κ k)/\Rd o w' p c v (qJ m).2 n/\Fq p v v w w':=by
 cases i0:m.is (ByteArray.mk #[105,110,116])
 .have j:¬m.is aic=true:=λh=>by have d:m.is (ByteArray.mk #[105,110,116])=true:=h;rw[i0]at d;cases d
  cases i1:m.is (ByteArray.mk #[115,116,114])
  .have u:¬m.is aid=true:=λh=>by have d:m.is (ByteArray.mk #[115,116,114])=true:=h;rw[i1]at d;cases d
   rw[show qJ m=(2,m.take Ui)from(aE j).trans (aE u)];go_in;go_wp2_with(go_at_call 35;refine(h.is _).mono ?_;rintro r w' ⟨rfl,rfl⟩);refine(h.take _).mono ?_;rintro e w1 ⟨_,rfl,q⟩;go_wp2_with fail;go_ret;exact⟨2,rfl,q⟩
  rw[show qJ m=(1,m.next)from(aE j).trans (aF i1)];go_in;go_wp2_with(go_at_call 35;refine(h.is _).mono ?_;rintro r w' ⟨rfl,rfl⟩);refine(h.next (h.live i1).2.1).mono ?_;rintro e w1 ⟨rfl,q⟩;go_wp2_with fail;go_ret;exact⟨1,rfl,q⟩
 rw[show qJ m=(0,m.next)from aF i0];go_in;go_wp2_with(go_at_call 35;refine(h.is _).mono ?_;rintro r w' ⟨rfl,rfl⟩);refine(h.next (h.live i0).2.1).mono ?_;rintro e w1 ⟨rfl,q⟩;go_wp2_with fail;go_ret;exact⟨0,rfl,q⟩
theorem Rd.names(h:Rd o w p c v m n)(hm:m.len<=600):Calls prog 52 #[π (σ ⟨p,0,ν⟩)] w λr w'=>
 ∃(a:Option Addr) (q k:Nat),r=τ (ψ a q k)/\Rd o w' p c v (jK m).2 n/\Fq p v v w w':=by
 obtain⟨i0,hi,lC,lI,kQ⟩:=info_parts Tryz.Dr;go_in;go_wp2_with fail;refine(h.start.rd.name).mono ?_;rintro r w1 ⟨P,O,rfl,Y,X⟩;have T:=((h.start.call Y X).vm #[θ P,ι κ O] 34 #[θ P,ι κ O] 34).one (z:=2) rfl;have Kr:=dI m;go_wp2_with fail;go_loopw[4] (λs wr=>∃(m':Mode) (l:List Nm) (f q:Nat) (a b:υ),St (w,v) wr p c v m' n [.row s 34 2 q,.box w1.heap.size #[a,b] 34]/\m'.len<=f/\q+m'.len<=m.len+1/\Hid (jT Mode.name f l m'=jK m)) (λs _=>2000 - lenOf s);case atStart=>exact⟨_,_,_,_,_,_,T,ae _,by omega,ak rfl⟩
 case round=>obtain⟨m',l,f,q,a,b,S,ab,wL,y⟩:=hrel;obtain⟨va,vc,rfl⟩:=S.slice;cases ic:m'.is (ByteArray.mk #[44]);{have Q:=ak ((qU (show m'.is qa=false from ic)).symm.trans y.J);go_wp2_with(go_at_call 35;refine(S.rd.is _).mono ?_;rintro r' w' ⟨rfl,rfl⟩);go_ret;refine⟨_,_,_,rfl,?_⟩;rw[<- Q.J];exact S.fin h};obtain⟨e3,W,e5⟩:=S.rd.live ic;obtain⟨f,rfl⟩:∃g,f=g+1:=⟨f - 1,by omega⟩;have uA:=ak (qT y.J (show m'.is qa=true from ic));go_wp2_with(go_at_call 35;refine(S.rd.is _).mono ?_;rintro r' w' ⟨rfl,rfl⟩);refine(S.rd.next W).mono ?_;rintro r w2 ⟨rfl,K,H⟩;have U:=S.call K H;go_wp2_with fail;refine(K.name).mono ?_;rintro r u ⟨e,d,rfl,Z,I⟩;have A:=U.call Z I;have j:=A.drop.box;obtain⟨t0,t1⟩:=jW j;have z0:=bX j 0;have z1:=bX j 1;have aa:=dI m'.next;have C:=((A.lO.put 0 (θ e)).put 1 (ι κ d)).alloc (Vz e d);obtain⟨xs,own⟩:=C.lO.row;have R:=own;have D:=ak (World.news_of_block (au ((u.setCell ⟨w1.heap.size,0,ν⟩ (θ e)).setCell ⟨w1.heap.size,1,ν⟩ (ι κ d)) (Vz e d)));have nQ:((u.setCell ⟨w1.heap.size,0,ν⟩ (θ e)).setCell ⟨w1.heap.size,1,ν⟩ (ι κ d)).heap.size=u.heap.size:=(by simp[World.setCell]);rw[nQ]at D;have mq:=S.rd.fr.keeps.size;have np:=H.keeps.size;have yB:=I.keeps.size;clear own j;go_wp2_with(at_builtin;refine cJ _ rfl (.tmp 15) (.tmp 17) 35 rfl w.heap.size 34 i0 _ 2 24 underlying35 hi lC lI kQ rfl (by decide) _ _ _ rfl R ⟨u.heap.size,0,ν⟩ 1 1 [θ e,ι κ d] rfl rfl D.J ?c2 (by decide) ?c3 ?c4 ?c5 ?_);(case c2=>intro ac M;simp at M;rcases M with rfl|rfl<;>rfl);(case c3=>unfold maxLen;omega);(case c4=>omega);(case c5=>simp[World.setCell]at mq ⊢;omega);intro g cap w5 E F G;have V:=C.lO.app E F (by simpa[World.setCell]using G);clear E F G;go_wp2_with fail;go_roundw;(case rel=>exact⟨_,_,f,_,_,_,V,by omega,by omega,uA⟩);case measure=>simp[lenOf];omega
end
