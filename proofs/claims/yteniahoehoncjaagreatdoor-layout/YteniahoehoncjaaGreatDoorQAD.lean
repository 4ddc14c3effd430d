import Derived.Test.YteniahoehoncjaaGreatDoorQAC
import Derived.Deep.AppendLies
set_option maxHeartbeats 99999999
set_option maxRecDepth 100000
namespace Go.Proofs.YteniahoehoncjaaGreatDoor
open Go.RowKit
theorem az {w:World}{g:Nat}{o:Obj}(h:w.heap[g]?=some o):g<w.heap.size:=(dM.mp h).1
def bF (w:World)(size:Nat)(v:Value)(n:Nat)(xs:List Value):Prop:=
 xs.length=n*size/\((n=0/\∃a c,v=.slice a 0 c)\/∃g o cap,v=.slice (some ⟨g,o,none⟩) n cap/\n<=cap/\g<w.heap.size/\∀j,j<n*size->w.cell? ⟨g,o+j,none⟩=xs[j]?)
section
variable {w w':World} {size n B:Nat} {v:Value} {xs:List Value}
theorem bF.jt {base:Nat}{t:TypeId}(h:w.ownsRow base t size v n xs):bF w size v n xs:=by
 refine ⟨h.1,?_⟩;rcases h.2 with ⟨h1,h2⟩|⟨g,cap,cur,hv,hg,hc,hn,r⟩
 . exact .inl ⟨h2,none,0,by rw [h1]⟩
 . refine .inr ⟨g,0,cap,hv,hn,az hc,λj hj=>?_⟩
   have ho:=h;rw [hv] at ho;rw [eP];exact ho.cellAt j hj
theorem bF.below (h:bF w size v n xs)(hb:Below B w w')(hB:w.heap.size<=B):bF w' size v n xs:=by
 refine ⟨h.1,?_⟩;rcases h.2 with h1|⟨g,o,cap,hv,hn,hg,hc⟩
 . exact .inl h1
 . exact .inr ⟨g,o,cap,hv,hn,aF hg hb.size,λj hj=>(hb.cell (p:=⟨g,o+j,none⟩) (by simp;omega)).trans (hc j hj)⟩
theorem bF.stays (h:bF w size v n xs)(hs:w.heap.size<=w'.heap.size)(hb:∀a c,v=.slice (some a) n c->w'.heap[a.block]?=w.heap[a.block]?):bF w' size v n xs:=by
 refine ⟨h.1,?_⟩;rcases h.2 with h1|⟨g,o,cap,hv,hn,hg,hc⟩
 . exact .inl h1
 . refine .inr ⟨g,o,cap,hv,hn,by omega,λj hj=>?_⟩
   rw [<- hc j hj];exact bJ (w:=w) (a:=⟨g,o+j,none⟩) (hb ⟨g,o,none⟩ cap hv)
theorem bF.slice (h:bF w size v n xs):∃a cap,v=.slice a n cap:=by
 rcases h.2 with ⟨h0,a,c,hv⟩|⟨g,o,cap,hv,-⟩
 . exact ⟨a,c,by rw [hv,h0]⟩
 . exact ⟨_,cap,hv⟩
theorem bF.at (h:bF w size v n xs)(hn:0<n):∃g o cap,v=.slice (some ⟨g,o,none⟩) n cap/\n<=cap/\g<w.heap.size/\∀j u,xs[j]?=some u->w.cell? ⟨g,o+j,none⟩=some u:=by
 rcases h.2 with ⟨h0,-⟩|⟨g,o,cap,hv,hc,hg,hx⟩
 . omega
 . exact ⟨g,o,cap,hv,hc,hg,λj u hu=>(hx j (by rw [<- h.1];exact (ak.mp hu).1)).trans hu⟩
end
theorem q9 {α:Type}(f:α->List Value)(k:Nat)(hf:∀a,(f a).length=k)(l:List α):(l.flatMap f).length=l.length*k:=by
 induction l with
 |nil=>simp
 |cons a l ih=>rw [jo,au,ih,hf,aY,lA];omega
theorem dc {α:Type}(f:α->List Value)(k:Nat)(hf:∀a,(f a).length=k)(l:List α){i:Nat}{a:α}(hi:l[i]?=some a){j:Nat}(hj:j<k):(l.flatMap f)[i*k+j]?=(f a)[j]?:=by
 induction l generalizing i with
 |nil=>simp at hi
 |cons x l ih=>
   rw [jo]
   cases i with
   |zero=>
     simp at hi;subst hi;rw [oV,eP,bQ (by rw [hf];exact hj)]
   |succ i=>
     rw [bm (by rw [hf,lA];omega),hf,show (i+1)*k+j - k=i*k+j by rw [lA];omega];exact ih (by simpa using hi)
theorem VF {α:Type}(f:α->List Value)(k:Nat)(hf:∀a,(f a).length=k)(l:List α){i:Nat}{a:α}(hi:i<l.length):(l.set i a).flatMap f=(l.flatMap f).take (i*k)++f a++(l.flatMap f).drop (i*k+k):=by
 induction l generalizing i with
 |nil=>simp at hi
 |cons x l ih=>
   cases i with
   |zero=>rw [iM,jo,jo,oV,eP,ll,fA,List.drop_append_of_le_length (by rw [hf];exact af _),oW (by rw [hf];exact af _),fA]
   |succ i=>
     have e:(i+1)*k=(f x).length+i*k:=by rw [hf,lA];omega
     rw [List.set_cons_succ,jo,jo,ih (by simpa using hi),e,List.take_length_add_append,gR,List.drop_length_add_append];simp [List.append_assoc]
section
variable {α:Type} {f:α->List Value} {k:Nat} (hf:∀a,(f a).length=k)
include hf
theorem xC (a:α)(z:Value)(hz:z.cells.toList=f a)(hk:0<k)(n:Nat):(madeCells z.cells (n*k)).toList=(List.replicate n a).flatMap f:=by
 have hs:z.cells.size=k:=by rw [<- dD,hz,hf]
 apply cX;intro j;by_cases hj:j<n*k
 . have hd:j / k<n:=by rw [Nat.div_lt_iff_lt_mul hk];exact hj
   have hm:=Nat.mod_lt j hk;have e:=dc f k hf (List.replicate n a) (i:=j / k) (a:=a) (by rw [cK,aH hd]) hm;rw [show j / k*k+j % k=j by rw [Nat.mul_comm];exact Nat.div_add_mod j k] at e;rw [e,<- hz];simp [madeCells,hj,hs];rw [getElem!_pos _ _ (by rw [hs];exact hm),Array.getElem?_eq_getElem (by rw [hs];exact hm)]
 . rw [bp (by rw [dD,size_madeCells];omega),bp (by rw [q9 f k hf,gb];omega)]
theorem ZE {l:List α}{i:Nat}{a:α}(hi:i<l.length){ys:List Value}(h2:∀j,j<k->ys[i*k+j]?=(f a)[j]?)(h3:∀j,j<i*k\/i*k+k<=j->ys[j]?=(l.flatMap f)[j]?):ys=(l.set i a).flatMap f:=by
 have hx:=q9 f k hf l;have hik:i*k+k<=l.length*k:=by have:=eF k (Nat.succ_le_of_lt hi);rw [qO] at this;exact this
 rw [VF f k hf l hi];apply cX;intro j;have hl:((l.flatMap f).take (i*k)).length=i*k:=by rw [bV,hx];omega
 by_cases h:j<i*k
 . rw [h3 j (.inl h),bh,bQ (by omega),fy,aH h]
 . by_cases h':j<i*k+k
   . have:=h2 (j - i*k) (by omega)
     rw [show i*k+(j - i*k)=j by omega] at this;rw [this,bQ (by rw [au,hl,hf];exact h'),bm (by omega),hl]
   . rw [h3 j (.inr (by omega)),bm (by rw [au,hl,hf];omega),au,hl,hf,gx,show i*k+k+(j - (i*k+k))=j by omega]
end
def nw (c:aL):List Value:=[.bool c.null,.int .i64 c.n,.string c.s]
def jx (c:aL):Value:=.agg #[.bool c.null,.int .i64 c.n,.string c.s]
def bw (l:List aL):List Value:=l.flatMap nw
theorem pE (c:aL):(nw c).length=3:=rfl
def lD (w:World)(v:Value)(cs:List aL):Prop:=bF w 3 v cs.length (bw cs)
theorem lD.get {w:World}{v:Value}{cs:List aL}(h:lD w v cs){i:Nat}{c:aL}(hi:cs[i]?=some c):∃g o cap,v=.slice (some ⟨g,o,none⟩) cs.length cap/\w.cell? ⟨g,o+i*3,none⟩=some (.bool c.null)/\w.cell? ⟨g,o+i*3+1,none⟩=some (.int .i64 c.n)/\w.cell? ⟨g,o+i*3+2,none⟩=some (.string c.s):=by
 obtain ⟨g,o,cap,hv,-,-,hx⟩:=bF.at h (cW (aN _) (ak.mp hi).1);exact ⟨g,o,cap,hv,hx (i*3) _ (dc nw 3 pE cs hi (j:=0) (by decide)),hx (i*3+1) _ (dc nw 3 pE cs hi (j:=1) (by decide)),hx (i*3+2) _ (dc nw 3 pE cs hi (j:=2) (by decide))⟩
def iC (w:World)(v:Value)(b:List (List aL)):Prop:=∃vs,bF w 1 v b.length vs/\∀(i:Nat) (cs:List aL),b[i]?=some cs->∃u,vs[i]?=some u/\lD w u cs
theorem iC.below {w w':World}{B:Nat}{v:Value}{b:List (List aL)}(h:iC w v b)(hb:Below B w w')(hB:w.heap.size<=B):iC w' v b:=by
 obtain ⟨vs,h1,h2⟩:=h;exact ⟨vs,h1.below hb hB,λi cs hi=>by obtain ⟨u,h3,h4⟩:=h2 i cs hi;exact ⟨u,h3,h4.below hb hB⟩⟩
theorem iC.get {w:World}{v:Value}{b:List (List aL)}(h:iC w v b){i:Nat}{cs:List aL}(hi:b[i]?=some cs):∃g o cap u,v=.slice (some ⟨g,o,none⟩) b.length cap/\w.cell? ⟨g,o+i,none⟩=some u/\lD w u cs:=by
 obtain ⟨vs,h1,h2⟩:=h;obtain ⟨u,h3,h4⟩:=h2 i cs hi;obtain ⟨g,o,cap,hv,-,-,hx⟩:=h1.at (cW (aN _) (ak.mp hi).1);exact ⟨g,o,cap,u,hv,hx i u h3,h4⟩
theorem iC.slice {w:World}{v:Value}{b:List (List aL)}(h:iC w v b):∃a cap,v=.slice a b.length cap:=h.elim λ_ h=>h.1.slice
def kZ (n:Nat):Value:=.int .i64 n
def kF (w:World)(v:Value)(l:List Nat):Prop:=bF w 1 v l.length (l.map kZ)
theorem kF.get {w:World}{v:Value}{l:List Nat}(h:kF w v l){i n:Nat}(hi:l[i]?=some n):∃g o cap,v=.slice (some ⟨g,o,none⟩) l.length cap/\w.cell? ⟨g,o+i,none⟩=some (.int .i64 n):=by
 obtain ⟨g,o,cap,hv,-,-,hx⟩:=bF.at h (cW (aN _) (ak.mp hi).1);exact ⟨g,o,cap,hv,hx i _ (by rw [a7,hi];rfl)⟩
def pV (c:cU):List Value:=[.string c.1,.int .i64 c.2]
theorem Iv (c:cU):(pV c).length=2:=rfl
def gq (w:World)(v:Value)(cols:List cU):Prop:=bF w 2 v cols.length (cols.flatMap pV)
theorem gq.get {w:World}{v:Value}{cols:List cU}(h:gq w v cols){i:Nat}{c:cU}(hi:cols[i]?=some c):∃g o cap,v=.slice (some ⟨g,o,none⟩) cols.length cap/\w.cell? ⟨g,o+i*2,none⟩=some (.string c.1)/\w.cell? ⟨g,o+i*2+1,none⟩=some (.int .i64 c.2):=by
 obtain ⟨g,o,cap,hv,-,-,hx⟩:=bF.at h (cW (aN _) (ak.mp hi).1);exact ⟨g,o,cap,hv,hx (i*2) _ (dc pV 2 Iv cols hi (j:=0) (by decide)),hx (i*2+1) _ (dc pV 2 Iv cols hi (j:=1) (by decide))⟩
theorem gq.below {w w':World}{B:Nat}{v:Value}{cols:List cU}(h:gq w v cols)(hb:Below B w w')(hB:w.heap.size<=B):gq w' v cols:=bF.below h hb hB
theorem gq.slice {w:World}{v:Value}{cols:List cU}(h:gq w v cols):∃a cap,v=.slice a cols.length cap:=bF.slice h
def yN (cols:List cU)(s:ByteArray):Int:=match J7 cols s with
 |some i=>i
 |none=>-1
theorem ZF {cols:List cU}{s:ByteArray}(h:∀(j:Nat) (c:cU),cols[j]?=some c->kh c.1 s=false):J7 cols s=none:=by
 unfold J7;rw [List.findIdx?_eq_none_iff];intro c hc;obtain ⟨j,hj⟩:=cm hc;exact h j c hj
theorem ZG {cols:List cU}{s:ByteArray}{i:Nat}{c:cU}(hi:cols[i]?=some c)(he:kh c.1 s=true)(h:∀(j:Nat) (c:cU),j<i->cols[j]?=some c->kh c.1 s=false):J7 cols s=some i:=by
 unfold J7;obtain ⟨cF,hc⟩:=ak.mp hi;rw [gL];refine ⟨cF,by rw [hc];exact he,λj hj=>?_⟩;have:=h j cols[j] hj (ah (by omega));simp [this]
def jy (lo hi:Nat)(a b:World):Prop:=hi<=b.heap.size/\∀k,lo<=k->k<hi->b.heap[k]?=a.heap[k]?
def Enters (n:Nat):Prop:=∀(args:Array Value) (w:World),Sem.run Tryz.prog (callFunc n args) w=.ok (.enter n args) w
theorem jy.below {lo:Nat}{a b c:World}(h:jy lo a.heap.size a b)(hb:Below b.heap.size b c):jy lo a.heap.size a c:=⟨aw h.1 hb.size,λk h1 h2=>(hb.block k (aF h2 h.1)).trans (h.2 k h1 h2)⟩
theorem jy.of {lo:Nat}{a b:World}(hb:Below a.heap.size a b):jy lo a.heap.size a b:=⟨hb.size,λk _ h2=>hb.block k h2⟩
theorem jy.back {lo:Nat}{a b c:World}(hb:Below a.heap.size a b)(h:jy lo b.heap.size b c):jy lo a.heap.size a c:=⟨aw hb.size h.1,λk h1 h2=>(h.2 k h1 (aF h2 hb.size)).trans (hb.block k h2)⟩
theorem jy.block {lo k:Nat}{a b:World}{o:Obj}(h:jy lo a.heap.size a b)(hk:lo<=k)(ho:a.heap[k]?=some o):b.heap[k]?=some o:=(h.2 k hk (az ho)).trans ho
theorem du {w w':World}{base size n:Nat}{t:TypeId}{v:Value}{xs:List Value}(h:w.ownsRow base t size v n xs)(hb:Below w.heap.size w w'):w'.ownsRow base t size v n xs:=h.kept (row:=none) ⟨hb.os,hb.tape,hb.output,hb.size,λk hk _=>hb.block k hk⟩ (by cases h:v.ownBlock<;>simp)
theorem di {w:World}{base:Nat}{e:TypeId}{size:Nat}{v:Value}{n:Nat}{xs:List Value}(h:w.ownsRow base e size v n xs):∃a cap,v=.slice a n cap/\(0<n->∃g,a=some ⟨g,0,none⟩/\base<=g)/\n<=cap:=by
 rcases h.2 with ⟨rfl,rfl⟩|⟨g,cap,cur,rfl,hg,_,hn,_⟩
 . exact ⟨none,0,rfl,λh=>by omega,by omega⟩
 . exact ⟨_,cap,rfl,λ_=>⟨g,rfl,hg⟩,hn⟩
theorem dJ {w w':World}{base size n:Nat}{t:TypeId}{v:Value}{xs:List Value}{row:Option Nat}(h:w.ownsRow base t size v n xs)(hg:w.grownBy w' row)(iq:∀k,row=some k->v.ownBlock≠some k):w'.ownsRow base t size v n xs:=h.kept hg (by
 cases hv:v.ownBlock with
 |none=>exact .inl rfl
 |some k=>exact .inr (λe=>iq k e.symm hv))
theorem cell0 {w:World}{q:Nat}{cs:Array Value}{t:TypeId}(h:w.heap[q]?=some (.cells cs t (0,0)))(i:Nat):w.cell? ⟨q,i,none⟩=cs[i]?:=by simp [World.cell?,h]
theorem lz {w:World}{q:Nat}{cs:Array Value}{t:TypeId}(h:w.heap[q]?=some (.cells cs t (0,0)))(i:Nat):w.frozen? ⟨q,i,none⟩=false:=by simp [World.frozen?,h]
theorem lE {P:Program}{t:TypeId}{z:Value}{sz by':Nat}(h:(P.info? t).map (λi=>(i.zero,i.size,i.bytes))=some (some z,sz,by')):∃i,P.info? t=some i/\i.zero=some z/\i.size=sz/\i.bytes=by':=by
 cases hi:P.info? t with
 |none=>rw [hi] at h;cases h
 |some i=>rw [hi] at h;simp at h;exact ⟨i,rfl,h.1,h.2.1,h.2.2⟩
theorem QW {P:Program}{w:World}{ops:Array Oper}{rest:List Oper}{o:Oper}{a:Act}{Q:Exit->Act->World->Prop}(Y8:o.guard=none)(s x:Operand)(t:TypeId)
 (ho:o.op=.call { callee:=.builtin .append,args:=#[s,x],argTypes:=#[t,t] }) {base:Nat} {e:TypeId} {z:Value} {size bytes:Nat} (ht:P.underlying t=some (.slice e)) (hI:(P.info? e).map (λi=>(i.zero,i.size,i.bytes))=some (some z,size,bytes)) (hz:z.cells.size=size/\0<size/\bytes<=1000)
 {v:Value} {n:Nat} {xs:List Value} (hs:a.eval s=v) (br:w.ownsRow base e size v n xs) {arr:Array Value} {N:Nat} (hx:a.eval x=.slice (some ⟨N,0,none⟩) 1 1) (hN:N=w.heap.size) (ams:arr.size=size) (h1:∀u∈arr.toList,u.oneCell'=true) (hn:n+1<=100000) (qv:base<=w.heap.size)
 (h:∀g cap w',w'.ownsRow base e size (.slice (some ⟨g,0,none⟩) (n+1) cap) (n+1) (xs++arr.toList)->(w.alloc (.cells arr e)).grownBy w' v.ownBlock->(v.ownBlock=some g\/w.heap.size+1<=g)->wpList P ops Q rest (a.put o.dst (.slice (some ⟨g,0,none⟩) (n+1) cap)) w'):wpList P ops Q (o::rest) a (w.alloc (.cells arr e)):=by
 subst hN;obtain ⟨i,hi,jS,jD,jv⟩:=lE hI;refine cA _ Y8 s x t ho base e i z size bytes ht hi jS jD jv hz.1 hz.2.1 v n xs hs (br.alloc _) ⟨w.heap.size,0,none⟩ 1 1 arr.toList hx (by rw [dD,ams,Nat.one_mul]) (World.news_of_block (ai w (.cells arr e))) h1 (by decide) (by unfold maxLen;omega) (aw (mO hn hz.2.2) (by decide)) (by simp;omega) ?_;intro g cap w' h2 h3 h4;exact h g cap w' h2 h3 (by simpa using h4)
abbrev dQ:=aL ⊕ Nat
def iD:dQ->List Value
 |.inl c=>[.bool c.null,.int .i64 c.n,.string c.s,.bool false]
 |.inr _=>[.bool false,.int .i64 0,.string ⟨#[]⟩,.bool true]
def yP (o:dQ):Value:=.agg (iD o).toArray
theorem oI (o:dQ):(iD o).length=4:=by cases o<;>rfl
theorem gE (o:dQ):∃x y z e,iD o=[.bool x,.int .i64 y,.string z,.bool e]/\yP o=.agg #[.bool x,.int .i64 y,.string z,.bool e]:=by cases o<;>exact ⟨_,_,_,_,rfl,rfl⟩
def Ix:dQ:=.inl ⟨false,0,⟨#[]⟩⟩
def rowOf (b:List (List aL))(r:Nat):List aL:=b.map λcs=>cs.getD r eW
def yQ (b:List (List aL))(rows:List Nat):Prop:=∀r∈rows,∀cs∈b,r<cs.length
def ef (a:World)(lo:Nat)(fv:Value)(ok:List aL->Prop)(F:List aL->dQ):Prop:=
 ∃n iJ,fv=.func (.func n) #[] iJ/\Enters n/\∀b,jy lo a.heap.size a b->∀bv cs rv rows,iC b bv cs->kF b rv rows->yQ cs rows->rows.length<=64->(∀r∈rows,ok (rowOf cs r))->
   Calls Tryz.prog n (#[bv,rv]++iJ) b λr b'=>∃v,r=.returned v/\b'.ownsRow b.heap.size 247 4 v rows.length ((rows.map λr=>F (rowOf cs r)).flatMap iD)/\Below b.heap.size b b'
def VO (a:World)(lo:Nat)(fv:Value)(ok:List aL->Prop)(G:List aL->aL):Prop:=
 ∃n iJ,fv=.func (.func n) #[] iJ/\Enters n/\∀b,jy lo a.heap.size a b->∀bv cs (r:Nat),iC b bv cs->yQ cs [r]->ok (rowOf cs r)->
   Calls Tryz.prog n (#[bv,.int .i64 r]++iJ) b λe b'=>e=.returned (jx (G (rowOf cs r)))/\Below b.heap.size b b'
theorem Ac {l:List dQ}{i:Nat}(hi:i<l.length)(o:dQ){a b c d:Value}(h:iD o=[a,b,c,d]):((((l.flatMap iD).set (i*4) a).set (i*4+1) b).set (i*4+2) c).set (i*4+3) d=(l.set i o).flatMap iD:=by
 have hx:=q9 iD 4 oI l;refine ZE oI hi (λj hj=>?_) (λj hj=>?_)
 . have h4:j=0\/j=1\/j=2\/j=3:=by omega
   generalize l.flatMap iD=xs at hx;rw [h];rcases h4 with rfl|rfl|rfl|rfl
   . rw [bq,aA (by omega),bq,aA (by omega),bq,aA (by omega),bq,aH (by omega),aH (by omega)];rfl
   . rw [bq,aA (by omega),bq,aA (by omega),bq,aH (by omega),aH (by simp only [List.length_set];omega)];rfl
   . rw [bq,aA (by omega),bq,aH (by omega),aH (by simp only [List.length_set];omega)];rfl
   . rw [bq,aH (by omega),aH (by simp only [List.length_set];omega)];rfl
 . generalize l.flatMap iD=xs at hx
   rw [bq,aA (by omega),bq,aA (by omega),bq,aA (by omega),bq,aA (by omega)]
theorem VP {l:List dQ}{i:Nat}(hi:l[i]?=some Ix)(c:aL):(((l.flatMap iD).set (i*4) (.bool c.null)).set (i*4+1) (.int .i64 c.n)).set (i*4+2) (.string c.s)=(l.set i (.inl c)).flatMap iD:=by
 rw [<- Ac (ak.mp hi).1 (.inl c) rfl];have h:=dc iD 4 oI l hi (j:=3) (by decide);generalize l.flatMap iD=xs at h;apply cX;intro j;by_cases hj:i*4+3=j
 . subst hj
   rw [bq,aA (by omega),bq,aA (by omega),bq,aA (by omega),bq,aH rfl,h,aH (by simp only [List.length_set];exact (ak.mp h).1)];rfl
 . rw [bq (i:=i*4+3),aA hj]
theorem jK {w:World}{base g cap n:Nat}{t:TypeId}{l:List dQ}{i:Nat}{o:dQ}{a b c d:Value}(h:w.ownsRow base t 4 (.slice (some ⟨g,0,none⟩) n cap) n (l.flatMap iD))(hi:l[i]?=some o)(ho:iD o=[a,b,c,d]):(w.cell? ⟨g,i*4,none⟩=some a/\w.cell? ⟨g,i*4+1,none⟩=some b/\w.cell? ⟨g,i*4+2,none⟩=some c/\w.cell? ⟨g,i*4+3,none⟩=some d)/\∀j,w.frozen? ⟨g,j,none⟩=false:=by
 have hx:=q9 iD 4 oI l;have hn:l.length=n:=by have:=h.1;omega
 have cF:=(ak.mp hi).1;refine ⟨⟨?_,?_,?_,?_⟩,λj=>h.frozenAt j⟩
 . rw [h.cellAt _ (by omega)];have:=dc iD 4 oI l hi (j:=0) (by decide);rw [ho] at this;exact this
 . rw [h.cellAt _ (by omega)];have:=dc iD 4 oI l hi (j:=1) (by decide);rw [ho] at this;exact this
 . rw [h.cellAt _ (by omega)];have:=dc iD 4 oI l hi (j:=2) (by decide);rw [ho] at this;exact this
 . rw [h.cellAt _ (by omega)];have:=dc iD 4 oI l hi (j:=3) (by decide);rw [ho] at this;exact this
def Cv (f:Nat->dQ)(rows:List Nat)(i:Nat):List dQ:=(rows.take i).map f++List.replicate (rows.length - i) Ix
theorem LI {f:Nat->dQ}{rows:List Nat}{i:Nat}(h:i<rows.length):(Cv f rows i)[i]?=some Ix:=by
 unfold Cv;have hl:((rows.take i).map f).length=i:=by simp;omega
 rw [bm (by omega),cK,aH (by omega)]
theorem Sm {f:Nat->dQ}{rows:List Nat}{i r:Nat}(h:rows[i]?=some r):(Cv f rows i).set i (f r)=Cv f rows (i+1):=by
 obtain ⟨cF,hr⟩:=ak.mp h;unfold Cv;have hl:((rows.take i).map f).length=i:=by simp;omega
 rw [show rows.length - i=(rows.length - (i+1))+1 by omega,fQ,dO _ _ (by omega),hl,cM,iM,dW,h];simp
theorem Tryz.VQ:(Tryz.prog.info? 247).map (λi=>(i.zero,i.size,i.bytes))=some (some (yP Ix),4,40):=by kernel_rfl
theorem adh {a b:World}{lo q:Nat}{t:TypeId}{fv:Value}{ok:List aL->Prop}{G:List aL->aL}(hc:VO a lo fv ok G)(hk:jy lo a.heap.size a b)(hq:b.heap[q]?=some (.cells #[fv] t (0,0))){bv rv:Value}{cs:List (List aL)}{rows:List Nat}(hb:iC b bv cs)(hr:kF b rv rows)(mC:yQ cs rows)(hl:rows.length<=64)(kW:∀r∈rows,ok (rowOf cs r)) :
 Calls Tryz.prog 137 #[bv,rv,.pointer (some ⟨q,0,none⟩)] b λr b'=>∃v,r=.returned v/\b'.ownsRow b.heap.size 247 4 v rows.length ((rows.map λr=>.inl (G (rowOf cs r))).flatMap iD)/\Below b.heap.size b b':=by
 obtain ⟨n,iJ,rfl,hE,hC⟩:=hc;obtain ⟨i0,yv,jS,jD,jv⟩:=lE Tryz.VQ;obtain ⟨ra,Ad,QZ⟩:=bF.slice hr;subst QZ;have HC:=hide hC;have HK:=hide hk;have HB:=hide hb;have HR:=hide hr;have HQ:=hide hq;have HIN:=hide mC;have R9:=hide kW;have BA:=az hq;unfold Enters at hE;clear hC hk hb hr hq mC kW;go_enter Tryz.func137,Tryz.ntmps137;go_wp2_with (at_make;refine dw _ rfl _ _ 245 rfl b.heap.size 247 i0 _ 4 Tryz.underlying245 yv jS jD _ _ _ _ rows.length rfl rfl rfl rfl (by rw [jv];omega) (by unfold maxLen;omega) (by simp) ?_;intro w1 br bE);rw [xC oI Ix (yP Ix) rfl (by decide)] at br;have bL:Below b.heap.size b w1:=(ag _ _).grown bE (af _) (by simp);have lX:=hide br;have eI:=hide bL;clear br bE bL yv jS jD jv;go_wp2_with fail;go_loopw [14] (λc wr=>∃i:Nat,i<=rows.length/\c=.int .i64 i/\Hid (wr.ownsRow b.heap.size 247 4 (.slice (some ⟨b.heap.size,0,none⟩) rows.length rows.length) rows.length ((Cv (λr=>.inl (G (rowOf cs r))) rows i).flatMap iD))/\Hid (Below b.heap.size b wr)) (λc _=>rows.length - (intOf c).toNat)
 case atStart=>exact ⟨0,aN _,rfl,hide (by simpa [Cv] using ae lX),eI⟩
 case round=>
  obtain ⟨i,hi,rfl,HO,oD⟩:=hrel;by_cases cF:i<rows.length
  . have jI:(i:Int)<rows.length:=by omega
    obtain ⟨r,yR⟩:∃r,rows[i]?=some r:=⟨rows[i],ah cF⟩;obtain ⟨g,o,cap,he,c0⟩:=kF.get (bF.below (ae HR) (ae oD) (af _)) yR
    cases he
    have oy:=aG yR;have UO:=hide (ae HC wr ((ae HK).below (ae oD)) bv cs r ((ae HB).below (ae oD) (af _)) (λx hx=>by cases dy.mp hx;exact ae HIN r oy) (ae R9 r oy));have Gt:=cell0 (((ae oD).block q BA).trans (ae HQ)) 0;have Bj:=hide yR;clear yR oy;go_wp2_with fail;refine (ae UO).mono ?_;rintro e w2 ⟨rfl,bO⟩;have ke:=du (ae HO) bO;obtain ⟨⟨d0,d1,d2,d3⟩,fz⟩:=jK ke (LI cF) rfl;have iP:=(((ke.stored (i*4) (.bool (G (rowOf cs r)).null)).1.stored (i*4+1) (.int .i64 (G (rowOf cs r)).n)).1.stored (i*4+2) (.string (G (rowOf cs r)).s)).1;rw [VP (LI cF),Sm (f:=λr=>.inl (G (rowOf cs r))) (ae Bj)] at iP;have pC:=hide iP;have jg:=hide ((ae oD).trans (bO.mono (ae oD).size));clear ke iP bO UO;unfold jx;go_wp2_with fail;go_roundw
    case rel=>exact ⟨i+1,by omega,by go_num,pC,hide ((((ae jg).setCell (af _) _).setCell (af _) _).setCell (af _) _)⟩
    case measure=>simp [intOf];omega
  . obtain rfl:i=rows.length:=by omega
    have ho:=ae HO;unfold Cv at ho;rw [cM,dp,bH,fI] at ho;have JW:=hide ho;clear ho;go_wp2_with fail;go_ret;exact ⟨_,rfl,ae JW,ae oD⟩
theorem wC {w:World}{lo:Nat}{fv:Value}{ok:List aL->Prop}{G:List aL->aL}(hc:VO w lo fv ok G)(pb:lo<=w.heap.size) :
 Calls Tryz.prog 115 #[fv] w λr w'=>∃wv,r=.returned wv/\ef w' lo wv ok (λrow=>.inl (G row))/\Below w.heap.size w w':=by
 have HC:=hide hc;obtain ⟨n,iJ,rfl,-⟩:=hc;have hb:Below w.heap.size w (w.alloc (.cells #[.func (.func n) #[] iJ] 242)):=(ag _ _).alloc (af _) _;have HW:Hid (ef (w.alloc (.cells #[.func (.func n) #[] iJ] 242)) lo (.func (.func 137) #[] #[.pointer (some ⟨w.heap.size,0,none⟩)]) ok (λrow=>.inl (G row))):=hide ⟨_,_,rfl,Tryz.call137,λb hk bv cs rv rows h1 h2 h3 h4 h5=>adh (ae HC) (jy.back hb hk) (hk.block pb (ai w _)) h1 h2 h3 h4 h5⟩;have HB:=hide hb;clear hb;go_enter Tryz.func115,Tryz.ntmps115;go_wp2_with fail;go_ret;exact ⟨_,rfl,ae HW,ae HB⟩
theorem ag5 (bv:Value)(r:Int)(w:World):Calls Tryz.prog 116 #[bv,.int .i64 r] w λe w'=>e=.returned (jx (oA 1))/\Below w.heap.size w w':=by
 go_enter Tryz.func116,Tryz.ntmps116;go_wp2_with fail;refine ay (v:=jx (oA 1)) (by simp [results,Tryz.results116,go_sem,jx,oA];try rfl) rfl ?_;exact ⟨rfl,by repeat (first|exact ag _ _|refine cy ?_ (by simp) _|refine df ?_ (by simp) _)⟩
theorem adi (bv:Value)(r:Int)(k:Int)(c:aL){q:Nat}{t:TypeId}{w:World}(hq:w.heap[q]?=some (.cells #[.int .i64 k,.bool c.null,.int .i64 c.n,.string c.s] t (0,0))):Calls Tryz.prog 235 #[bv,.int .i64 r,.pointer (some ⟨q,0,none⟩)] w λe w'=>e=.returned (jx c)/\Below w.heap.size w w':=by
 have Co:=(bA w (.cells #[.bool false,.int .i64 0,.string ⟨#[]⟩] 214) q (az hq)).trans hq;have c1:=cell0 Co 1;have c2:=cell0 Co 2;have c3:=cell0 Co 3;simp only [List.getElem?_toArray,List.getElem?_cons_zero,List.getElem?_cons_succ] at c1 c2 c3;clear hq Co;go_enter Tryz.func235,Tryz.ntmps235;go_wp2_with fail;refine ay (v:=jx c) (by simp [results,Tryz.results235,go_sem,jx];try rfl) rfl ?_;exact ⟨rfl,by repeat (first|exact ag _ _|refine cy ?_ (by simp) _|refine df ?_ (by simp) _)⟩
theorem adj {bv:Value}{cs:List (List aL)}{r i:Nat}{q:Nat}{t:TypeId}{w:World}(hq:w.heap[q]?=some (.cells #[.int .i64 i] t (0,0)))(hb:iC w bv cs)(hi:i<cs.length)(hr:yQ cs [r]):Calls Tryz.prog 236 #[bv,.int .i64 r,.pointer (some ⟨q,0,none⟩)] w λe w'=>e=.returned (jx ((rowOf cs r).getD i eW))/\Below w.heap.size w w':=by
 have YC:Below w.heap.size w (w.alloc (.cells #[.bool false,.int .i64 0,.string ⟨#[]⟩] 214)):=(ag _ _).alloc (af _) _;have c0:=cell0 ((YC.block q (az hq)).trans hq) 0;simp only [List.getElem?_toArray,List.getElem?_cons_zero] at c0;obtain ⟨col,lL⟩:∃c,cs[i]?=some c:=⟨cs[i],ah hi⟩;have Ey:r<col.length:=hr r (by simp) col (aG lL);obtain ⟨c,hc⟩:∃c,col[r]?=some c:=⟨col[r],ah Ey⟩;obtain ⟨g,o,cap,u,rfl,d0,hu⟩:=(hb.below YC (af _)).get lL;obtain ⟨g2,o2,uy,rfl,e0,e1,e2⟩:=hu.get hc;have HA:=hide (show (rowOf cs r).getD i eW=c by simp [rowOf,List.getD,lL,hc]);have Ot:(i:Int)<cs.length:=by omega
 have hr':(r:Int)<col.length:=by omega
 clear hq lL hc hb hr hu YC;rw [ae HA];go_enter Tryz.func236,Tryz.ntmps236;go_wp2_with fail;refine ay (v:=jx c) (by simp [results,Tryz.results236,go_sem,jx];try rfl) rfl ?_;exact ⟨rfl,by repeat (first|exact ag _ _|refine cy ?_ (by simp) _|refine df ?_ (by simp) _)⟩
def tf (a:World)(lo:Nat)(fv:Value)(ok:aL->Prop)(W:aL->dQ):Prop:=
 ∃n iJ,fv=.func (.func n) #[] iJ/\Enters n/\∀b,jy lo a.heap.size a b->∀c,ok c->Calls Tryz.prog n (#[jx c]++iJ) b λe b'=>e=.returned (yP (W c))/\Below b.heap.size b b'
def uz (a:World)(lo:Nat)(fv:Value)(ok:aL->aL->Prop)(W:aL->aL->dQ):Prop:=
 ∃n iJ,fv=.func (.func n) #[] iJ/\Enters n/\∀b,jy lo a.heap.size a b->∀c d,ok c d->Calls Tryz.prog n (#[jx c,jx d]++iJ) b λe b'=>e=.returned (yP (W c d))/\Below b.heap.size b b'
def vw (W:aL->dQ):dQ->dQ
 |.inl c=>W c
 |.inr e=>.inr e
def mid (f g:Nat->dQ)(rows:List Nat)(i:Nat):List dQ:=(rows.take i).map f++(rows.drop i).map g
theorem Q0 {f g:Nat->dQ}{rows:List Nat}{i:Nat}:(mid f g rows i).length=rows.length:=by simp [mid];omega
theorem wD {f g:Nat->dQ}{rows:List Nat}{i r:Nat}(h:rows[i]?=some r):(mid f g rows i)[i]?=some (g r):=by
 obtain ⟨cF,hr⟩:=ak.mp h;unfold mid;rw [bm (by simp;omega)];simp [show i - min i rows.length=0 by omega,cF,hr]
theorem J8 {f g:Nat->dQ}{rows:List Nat}{i r:Nat}(h:rows[i]?=some r):(mid f g rows i).set i (f r)=mid f g rows (i+1):=by
 obtain ⟨cF,hr⟩:=ak.mp h;unfold mid;have hl:((rows.take i).map f).length=i:=by simp;omega
 rw [dA cF,nV,dO _ _ (by omega),hl,cM,iM,dW,h];simp
theorem LJ {f g:Nat->dQ}{rows:List Nat}{i r:Nat}(h:rows[i]?=some r)(e:f r=g r):mid f g rows i=mid f g rows (i+1):=by
 rw [<- J8 h,e];have:=wD (f:=f) (g:=g) h;apply cX;intro j;rw [bq];by_cases hj:i=j
 . subst hj
   rw [aH rfl,this,aH (ak.mp this).1]
 . rw [aA hj]
theorem adk {a b:World}{lo q q2:Nat}{t t2:TypeId}{fv wv:Value}{ok:List aL->Prop}{okc:aL->Prop}{F:List aL->dQ}{W:aL->dQ}(hc:ef a lo fv ok F)(hw:tf a lo wv okc W)(uA:∀row,ok row->∀c,F row=.inl c->okc c)(hk:jy lo a.heap.size a b)(hq:b.heap[q]?=some (.cells #[fv] t (0,0)))(Cw:b.heap[q2]?=some (.cells #[wv] t2 (0,0))){bv rv:Value}{cs:List (List aL)}{rows:List Nat}(hb:iC b bv cs)(hr:kF b rv rows)(mC:yQ cs rows)(hl:rows.length<=64)(kW:∀r∈rows,ok (rowOf cs r)) :
 Calls Tryz.prog 246 #[bv,rv,.pointer (some ⟨q,0,none⟩),.pointer (some ⟨q2,0,none⟩)] b λr b'=>∃v,r=.returned v/\b'.ownsRow b.heap.size 247 4 v rows.length ((rows.map λr=>vw W (F (rowOf cs r))).flatMap iD)/\Below b.heap.size b b':=by
 obtain ⟨n,iJ,rfl,hE,hC⟩:=hc;obtain ⟨n2,iy,rfl,hE2,hC2⟩:=hw;have HC:=hide (hC b hk bv cs rv rows hb hr mC hl kW);have HW:=hide hC2;have HK:=hide hk;have G9:=hide (λr (h:r∈rows)=>uA _ (kW r h));have VR:=hide Cw;have c0:=cell0 hq 0;simp at c0;have BA:=az Cw;unfold Enters at hE hE2;clear hC hC2 hk hb hr hq Cw mC kW uA;go_enter Tryz.func246,Tryz.ntmps246;go_wp2_with fail;refine (ae HC).mono ?_;rintro e w1 ⟨v,rfl,br,bL⟩;obtain ⟨va,cJ,rfl,Eu,GH⟩:=di br;have lX:=hide br;have eI:=hide bL;have HVA:=hide Eu;clear br bL Eu HC c0;go_wp2_with fail;go_loopw [16] (λc wr=>∃i:Nat,i<=rows.length/\c=.int .i64 i/\Hid (wr.ownsRow b.heap.size 247 4 (.slice va rows.length cJ) rows.length ((mid (λr=>vw W (F (rowOf cs r))) (λr=>F (rowOf cs r)) rows i).flatMap iD))/\Hid (Below b.heap.size b wr)) (λc _=>rows.length - (intOf c).toNat)
 case atStart=>exact ⟨0,aN _,rfl,hide (by simpa [mid] using ae lX),eI⟩
 case round=>
  obtain ⟨i,hi,rfl,HO,oD⟩:=hrel;by_cases cF:i<rows.length
  . have jI:(i:Int)<rows.length:=by omega
    obtain ⟨g,rfl,hg⟩:=ae HVA (by omega);obtain ⟨r,yR⟩:∃r,rows[i]?=some r:=⟨rows[i],ah cF⟩;have oy:=aG yR;have HM:=hide oy;have Bj:=hide yR;clear oy
    cases ho:F (rowOf cs r) with
    |inr e=>
      obtain ⟨⟨d0,d1,d2,d3⟩,fz⟩:=jK (ae HO) (wD yR) (by simp only [ho];rfl);have HS:=hide (LJ (f:=λr=>vw W (F (rowOf cs r))) (g:=λr=>F (rowOf cs r)) yR (by simp only [ho];rfl));clear yR ho;go_wp2_with fail;go_roundw
      case rel=>exact ⟨i+1,by omega,by go_num,hide (by rw [<- ae HS];exact (ae HO).alloc _),hide ((ae oD).alloc (ae oD).size _)⟩
      case measure=>simp [intOf];omega
    |inl c=>
      obtain ⟨⟨d0,d1,d2,d3⟩,fz⟩:=jK (ae HO) (wD yR) (by simp only [ho];rfl);have HS:=hide (J8 (f:=λr=>vw W (F (rowOf cs r))) (g:=λr=>F (rowOf cs r)) yR);have Sn:=hide ((ae oD).alloc (ae oD).size (.cells #[.bool c.null,.int .i64 c.n,.string c.s,.bool false] 247));have vG:=hide (ae HW _ ((ae HK).below (ae Sn)) c (ae G9 r (ae HM) c ho));have HE:Hid (vw W (F (rowOf cs r))=W c):=hide (by rw [ho];rfl);have Gt:=cell0 (((ae Sn).block q2 BA).trans (ae VR)) 0;simp only [List.getElem?_toArray,List.getElem?_cons_zero] at Gt;clear yR ho;unfold jx at vG;go_wp2_with fail;refine (ae vG).mono ?_;rintro e w2 ⟨rfl,bO⟩;have ke:=du ((ae HO).alloc _) bO;obtain ⟨x,y,z,er,hoL,hoV⟩:=gE (W c);rw [hoV];obtain ⟨-,fz2⟩:=jK ke (wD (ae Bj)) (gE (F (rowOf cs r))).choose_spec.choose_spec.choose_spec.choose_spec.1;obtain ⟨⟨e0,e1,e2,e3⟩,-⟩:=jK ke (wD (ae Bj)) (gE (F (rowOf cs r))).choose_spec.choose_spec.choose_spec.choose_spec.1;have iP:=((((ke.stored (i*4) (.bool x)).1.stored (i*4+1) (.int .i64 y)).1.stored (i*4+2) (.string z)).1.stored (i*4+3) (.bool er)).1;rw [Ac (by rw [Q0];exact cF) (W c) hoL,<- ae HE,ae HS] at iP;have pC:=hide iP;have jg:=hide ((ae Sn).trans (bO.mono (ae Sn).size));clear ke iP bO vG hoL hoV d0 d1 d2 d3 fz;go_wp2_with fail;go_roundw
      case rel=>exact ⟨i+1,by omega,by go_num,pC,hide (((((ae jg).setCell hg _).setCell hg _).setCell hg _).setCell hg _)⟩
      case measure=>simp [intOf];omega
  . obtain rfl:i=rows.length:=by omega
    have ho:=ae HO;unfold mid at ho;rw [fI,iO,qP,bH] at ho;have JW:=hide ho;clear ho;go_wp2_with fail;go_ret;exact ⟨_,rfl,ae JW,ae oD⟩
def tg (c:aL):Prop:=c=eW\/c=oA 0\/c=oA 1
def Sp (s:Bool):dQ->Bool
 |.inl c=>!c.null&&decide (c.n=if s then 1 else 0)
 |.inr _=>false
def iU (s:Bool)(l r:dQ):dQ:=
 match l with
 |.inr e=>.inr e
 |.inl u=>if Sp s l then l else match r with
   |.inr e=>.inr e
   |.inl v=>if Sp s r then r else if u.null then .inl u else .inl v
def qy (s:Bool):dQ->Bool
 |.inr _=>false
 |.inl c=>!Sp s (.inl c)
def opens (s:Bool)(F:Nat->dQ)(rows:List Nat)(i:Nat):List (Nat×Nat):=((rows.take i).zipIdx).filter λp=>qy s (F p.1)
theorem uB {s:Bool}{F:Nat->dQ}{rows:List Nat}{i r:Nat}(h:rows[i]?=some r):opens s F rows (i+1)=opens s F rows i++(if qy s (F r) then [(r,i)] else []):=by
 unfold opens;have hi:=(ak.mp h).1;rw [dW,h,List.zipIdx_append,rN];congr 1;simp [List.filter_cons,List.zipIdx,Nat.min_eq_left (Nat.le_of_lt hi)]
theorem Iy (s:Bool)(F:Nat->dQ)(rows:List Nat)(i:Nat):(opens s F rows i).length<=i:=by
 unfold opens;refine aw (jX _ _) ?_;simp;omega
theorem Sr {s:Bool}{F:Nat->dQ}{rows:List Nat}{i:Nat}{p:Nat×Nat}(h:p∈opens s F rows i):rows[p.2]?=some p.1/\qy s (F p.1)=true:=by
 unfold opens at h;obtain ⟨h1,h2⟩:=gp.mp h;have:=lR.mp h1;rw [fy] at this;split at this
 . exact ⟨this,h2⟩
 . cases this
theorem LK {s:Bool}{F:Nat->dQ}{rows:List Nat}{i:Nat}:(opens s F rows i).Pairwise λa b=>a.2<b.2:=by
 induction i with
 |zero=>simp [opens]
 |succ i ih=>
   cases h:rows[i]? with
   |none=>
     have hl:rows.length<=i:=by simpa using h
     have e:opens s F rows (i+1)=opens s F rows i:=by unfold opens;rw [aP (by omega),aP hl]
     rw [e];exact ih
   |some r=>
     rw [uB h,List.pairwise_append];refine ⟨ih,by split<;>simp,λa ha b hb=>?_⟩;split at hb
     . simp at hb
       subst hb;unfold opens at ha;have:=lR.mp (gp.mp ha).1;have:=(ak.mp this).1;simp at this;omega
     . simp at hb
def vK (s:Bool)(F G:Nat->dQ)(rows:List Nat)(ops:List (Nat×Nat)):List dQ:=rows.zipIdx.map λp=>if p∈ops then iU s (F p.1) (G p.1) else F p.1
theorem LL {s:Bool}{F G:Nat->dQ}{rows:List Nat}{ops:List (Nat×Nat)}:(vK s F G rows ops).length=rows.length:=by simp [vK]
theorem VT {s:Bool}{F G:Nat->dQ}{rows:List Nat}:vK s F G rows []=rows.map F:=by
 unfold vK;apply cX;intro j;simp [List.getElem?_zipIdx]
 cases rows[j]?<;>rfl
theorem Q5 {s:Bool}{F G:Nat->dQ}{rows:List Nat}{ops:List (Nat×Nat)}{j r:Nat}(h:rows[j]?=some r)(hn:(r,j)∉ops):(vK s F G rows ops)[j]?=some (F r):=by
 unfold vK;simp [List.getElem?_zipIdx,h,hn]
theorem LM {s:Bool}{F G:Nat->dQ}{rows:List Nat}{ops:List (Nat×Nat)}{j r:Nat}(h:rows[j]?=some r):(vK s F G rows ops).set j (iU s (F r) (G r))=vK s F G rows (ops++[(r,j)]):=by
 apply cX;intro i;have hj:=(ak.mp h).1;rw [bq];by_cases e:j=i
 . subst e
   rw [aH rfl,aH (by rw [LL];exact hj)];unfold vK;simp [List.getElem?_zipIdx,h]
 . rw [aA e]
   unfold vK;simp only [List.getElem?_map,List.getElem?_zipIdx,Nat.zero_add]
   cases hi:rows[i]? with
   |none=>rfl
   |some q=>
     have:(q,i)∈ops++[(r,j)]↔(q,i)∈ops:=by simp;intro _ h2;exact absurd h2.symm e
     simp only [Option.map_some];by_cases hm:(q,i)∈ops
     . rw [aH hm,aH (this.mpr hm)]
     . rw [aA hm,aA (mt this.mp hm)]
theorem Ss {s:Bool}{F G:Nat->dQ}{rows:List Nat}{ops:List (Nat×Nat)}{j r:Nat}(h:rows[j]?=some r)(hn:(r,j)∉ops)(e:iU s (F r) (G r)=F r):vK s F G rows ops=vK s F G rows (ops++[(r,j)]):=by
 rw [<- LM h,e];have:=Q5 (s:=s) (F:=F) (G:=G) h hn;apply cX;intro i;rw [bq];by_cases hj:j=i
 . subst hj
   rw [aH rfl,this,aH (ak.mp this).1]
 . rw [aA hj]
theorem VU {s:Bool}{F G:Nat->dQ}{rows:List Nat}:vK s F G rows (opens s F rows rows.length)=rows.map λr=>iU s (F r) (G r):=by
 unfold vK;apply cX;intro j;simp only [List.getElem?_map,List.getElem?_zipIdx,Nat.zero_add]
 cases hj:rows[j]? with
 |none=>rfl
 |some r=>
   simp only [Option.map_some];congr 1;have hm:(r,j)∈opens s F rows rows.length↔qy s (F r)=true:=by
    unfold opens;rw [fI,gp,lR];simp [hj]
   by_cases ho:qy s (F r)=true
   . rw [aH (hm.mpr ho)]
   . rw [aA (λh=>ho (hm.mp h))]
     cases hf:F r with
     |inr e=>rfl
     |inl c=>
       rw [hf] at ho;simp only [qy,Bool.not_eq_true',Bool.not_eq_false] at ho;simp [iU,ho]
theorem Tryz.Ae:(Tryz.prog.info? 3).map (λi=>(i.zero,i.size,i.bytes))=some (some (.int .i64 0),1,8):=by kernel_rfl
theorem uC {w:World}{base size n k:Nat}{t:TypeId}{v:Value}{xs:List Value}(h:w.ownsRow base t size v n xs)(hk:v.ownBlock=some k):base<=k/\k<w.heap.size:=by
 rcases h.2 with ⟨rfl,-⟩|⟨g,cap,cur,rfl,hg,hc,-⟩
 . cases hk
 . cases hk
   exact ⟨hg,az hc⟩
structure Af (b w1 wr:World)(v:Value)(s:Bool)(f:Nat->dQ)(rows:List Nat)(i:Nat)(vo vr:Value):Prop where
 out:wr.ownsRow b.heap.size 247 4 v rows.length ((rows.map f).flatMap iD)
 op:wr.ownsRow w1.heap.size 3 1 vo (opens s f rows i).length ((opens s f rows i).map λp=>kZ p.2)
 rw':wr.ownsRow w1.heap.size 3 1 vr (opens s f rows i).length ((opens s f rows i).map λp=>kZ p.1)
 sep:∀k,vo.ownBlock=some k->vr.ownBlock≠some k
 old:∀k,v.ownBlock=some k->k<w1.heap.size
 K8:Below b.heap.size b wr
 sz:w1.heap.size<=wr.heap.size
 bsz:b.heap.size<=w1.heap.size
theorem Af.alloc {b w1 wr:World}{v:Value}{s:Bool}{f:Nat->dQ}{rows:List Nat}{i:Nat}{vo vr:Value}(h:Af b w1 wr v s f rows i vo vr)(o:Obj):Af b w1 (wr.alloc o) v s f rows i vo vr:=
 ⟨h.out.alloc o,h.op.alloc o,h.rw'.alloc o,h.sep,h.old,h.K8.alloc h.K8.size o,by simp;have:=h.sz;omega,h.bsz⟩
theorem Af.push {b w1 wr w2 w3:World}{v:Value}{s:Bool}{f:Nat->dQ}{rows:List Nat}{i r:Nat}{vo vr:Value}(h:Af b w1 wr v s f rows i vo vr)(yR:rows[i]?=some r)(ho:qy s (f r)=true){c c':Obj}{g cap g' vF:Nat}
 (h2:w2.ownsRow w1.heap.size 3 1 (.slice (some ⟨g,0,none⟩) ((opens s f rows i).length+1) cap) ((opens s f rows i).length+1) (((opens s f rows i).map λp=>kZ p.2)++[kZ i])) (g2:(wr.alloc c).grownBy w2 vo.ownBlock) (b2:vo.ownBlock=some g\/wr.heap.size+1<=g)
 (h3:w3.ownsRow w1.heap.size 3 1 (.slice (some ⟨g',0,none⟩) ((opens s f rows i).length+1) vF) ((opens s f rows i).length+1) (((opens s f rows i).map λp=>kZ p.1)++[kZ r])) (g3:(w2.alloc c').grownBy w3 vr.ownBlock) (b3:vr.ownBlock=some g'\/w2.heap.size+1<=g') :
 Af b w1 w3 v s f rows (i+1) (.slice (some ⟨g,0,none⟩) (opens s f rows (i+1)).length cap) (.slice (some ⟨g',0,none⟩) (opens s f rows (i+1)).length vF):=by
 have e:opens s f rows (i+1)=opens s f rows i++[(r,i)]:=by rw [uB yR,aH ho]
 have hl:(opens s f rows (i+1)).length=(opens s f rows i).length+1:=by rw [e];simp
 have hg:g<w2.heap.size:=(uC h2 rfl).2;have Ha:∀k,vr.ownBlock=some k->k<wr.heap.size:=λk hk=>(uC h.rw' hk).2;have LN:wr.heap.size+1<=w2.heap.size:=by have:=g2.size;simpa using this
 have iq:∀k,vr.ownBlock=some k->g≠k:=λk hk hh=>by
  subst hh;rcases b2 with hb|hb
  . exact h.sep g hb hk
  . have:=Ha g hk;omega
 have amx:=dJ (h.out.alloc c) g2 (λk hk hv=>by have h1:=(uC h.op hk).1;have h2:=h.old k hv;omega);have ado:Below b.heap.size b w2:=(h.K8.alloc h.K8.size c).grown g2 (by simp;have:=h.K8.size;omega) (λk hk=>aw h.bsz (uC h.op hk).1);refine ⟨dJ (amx.alloc c') g3 (λk hk hv=>by have h1:=(uC h.rw' hk).1;have h2:=h.old k hv;omega),?_,?_,λk hk QS=>?_,h.old,(ado.alloc ado.size c').grown g3 (by simp;have:=ado.size;omega) (λk hk=>aw h.bsz (uC h.rw' hk).1),?_,h.bsz⟩
 . rw [hl,e,fB]
   exact dJ (h2.alloc c') g3 (λk hk hv=>iq k hk (by cases hv;rfl))
 . rw [hl,e,fB]
   exact h3
 . cases hk
   cases QS
   rcases b3 with hb|hb
   . exact iq _ hb rfl
   . omega
 . have:=g3.size
   simp at this;have:=h.sz;omega
theorem adp (a:Int)(w:World):Calls Tryz.prog 277 #[.int .i64 a] w λr w'=>r=.returned (.bool false)/\w'=w:=by
 go_enter Tryz.func277,Tryz.ntmps277;go_wp2_with fail;go_ret;exact ⟨rfl,rfl⟩
theorem adq (s:ByteArray)(w:World):Calls Tryz.prog 286 #[.string s] w λr w'=>r=.returned (.bool false)/\w'=w:=by
 have e:(s.toList != s.toList)=false:=by simp
 go_enter Tryz.func286,Tryz.ntmps286;go_wp2_with fail;go_ret;exact ⟨rfl,rfl⟩
def LO (a b:Int):Int:=if a<b then -1 else if b<a then 1 else 0
theorem Iz:∀x y:List UInt8,Cu x y=if Op.bytesLess x y then -1 else if x==y then 0 else 1
 |[],[]=>rfl
 |[],_::_=>rfl
 |_::_,[]=>rfl
 |a::x,b::y=>by
   have ih:=Iz x y;unfold Cu Op.bytesLess;by_cases h:a=b
   . subst h
     rw [aH rfl,ih];simp
   . rw [aA h]
     by_cases g:a<b
     . simp [g]
     . simp [g,h]
theorem VW (a b:Int)(w:World):Calls Tryz.prog 279 #[.int .i64 a,.int .i64 b] w λr w'=>r=.returned (.int .i64 (LO a b))/\w'=w:=by
 have HC:=hide (show (a<b->LO a b=-1)/\(¬a<b->b<a->LO a b=1)/\(¬a<b->¬b<a->LO a b=0) from ⟨λh=>aH h,λh g=>(aA h).trans (aH g),λh g=>(aA h).trans (aA g)⟩);rcases nt (a<b) with h|h
 . have H:=hide ((ae HC).1 h)
   go_enter Tryz.func279,Tryz.ntmps279;go_wp2_with (first|(go_at_call 277;refine (adp _ _).mono ?_;rintro r w' ⟨rfl,rfl⟩));go_ret;exact ⟨by rw [ae H];rfl,rfl⟩
 . rcases nt (b<a) with g|g
   . have H:=hide ((ae HC).2.1 h g)
     go_enter Tryz.func279,Tryz.ntmps279;go_wp2_with (first|(go_at_call 277;refine (adp _ _).mono ?_;rintro r w' ⟨rfl,rfl⟩));go_ret;exact ⟨by rw [ae H];rfl,rfl⟩
   . have H:=hide ((ae HC).2.2 h g)
     go_enter Tryz.func279,Tryz.ntmps279;go_wp2_with (first|(go_at_call 277;refine (adp _ _).mono ?_;rintro r w' ⟨rfl,rfl⟩));go_ret;exact ⟨by rw [ae H];rfl,rfl⟩
theorem VX (a b:ByteArray)(w:World):Calls Tryz.prog 280 #[.string a,.string b] w λr w'=>r=.returned (.int .i64 (Cu a.toList b.toList))/\w'=w:=by
 rw [Iz]
 cases h:Op.bytesLess a.toList b.toList with
 |true=>
   go_enter Tryz.func280,Tryz.ntmps280;go_wp2_with (first|(go_at_call 286;refine (adq _ _).mono ?_;rintro r w' ⟨rfl,rfl⟩));go_ret;exact ⟨rfl,rfl⟩
 |false=>
   cases g:a.toList==b.toList with
   |true=>
     go_enter Tryz.func280,Tryz.ntmps280;go_wp2_with (first|(go_at_call 286;refine (adq _ _).mono ?_;rintro r w' ⟨rfl,rfl⟩));go_ret;exact ⟨rfl,rfl⟩
   |false=>
     go_enter Tryz.func280,Tryz.ntmps280;go_wp2_with (first|(go_at_call 286;refine (adq _ _).mono ?_;rintro r w' ⟨rfl,rfl⟩));go_ret;exact ⟨rfl,rfl⟩
def orI (a b:Int):Int:=if a=0 then b else a
theorem adr (a b:Int)(g cap:Nat)(w:World)(h0:w.cell? ⟨g,0,none⟩=some (.int .i64 a))(h1:w.cell? ⟨g,1,none⟩=some (.int .i64 b)):Calls Tryz.prog 278 #[.slice (some ⟨g,0,none⟩) 2 cap] w λr w'=>r=.returned (.int .i64 (orI a b))/\Below w.heap.size w w':=by
 go_enter Tryz.func278,Tryz.ntmps278;go_wp2_with fail;go_loopw [5,8] (λ_ c wr=>∃i:Nat,i<=2/\c=.int .i64 i/\wr=w/\Hid ((1<=i->a=0)/\(2<=i->b=0))) (λ_ c _=>2 - (intOf c).toNat)
 case atStart=>exact ⟨0,by omega,rfl,rfl,hide ⟨λh=>by omega,λh=>by omega⟩⟩
 case round=>
  obtain ⟨i,hi,rfl,rfl,HI⟩:=hrel;have h3:i=0\/i=1\/i=2:=by omega
  rcases h3 with rfl|rfl|rfl
  . by_cases ha:a=0
    . have HA:=hide ha
      have ea:(a != 0)=false:=by rw [ha];rfl
      clear ha;go_wp2_with fail;exact ⟨⟨1,by omega,by go_num,by first|rfl|trivial,hide ⟨λ_=>ae HA,λh=>by omega⟩⟩,by simp [intOf]⟩
    . have HA:=hide (show orI a b=a from aA ha)
      have ea:(a != 0)=true:=by rw [gy];exact ha
      clear ha;go_wp2_with fail;go_ret;exact ⟨by rw [ae HA];rfl,ag _ _⟩
  . have H1:=hide ((ae HI).1 (af _))
    by_cases hb:b=0
    . have HB:=hide hb
      have eb:(b != 0)=false:=by rw [hb];rfl
      clear hb;go_wp2_with fail;exact ⟨⟨2,by omega,by go_num,by first|rfl|trivial,hide ⟨λ_=>ae H1,λ_=>ae HB⟩⟩,by simp [intOf]⟩
    . have HA:=hide (show orI a b=b from aH (ae H1))
      have eb:(b != 0)=true:=by rw [gy];exact hb
      clear hb;go_wp2_with fail;go_ret;exact ⟨by rw [ae HA];rfl,ag _ _⟩
  . have HA:=hide (show orI a b=0 from (aH ((ae HI).1 (by omega))).trans ((ae HI).2 (by omega)))
    go_wp2_with fail;go_ret;exact ⟨by rw [ae HA];rfl,ag _ _⟩
def Sv (l r:aL):Int:=orI (LO l.n r.n) (Cu l.s.toList r.s.toList)
theorem ez {w1:World}{r:Nat}{a b:Value}{t:TypeId}(h:w1.heap[r]?=some (.cells #[a,b] t (0,0))):w1.cell? ⟨r,0,none⟩=some a/\w1.cell? ⟨r,1,none⟩=some b:=by simp [World.cell?,h]
theorem kG {w1:World}{r:Nat}{a b c:Value}{t:TypeId}(h:w1.heap[r]?=some (.cells #[a,b,c] t (0,0))):w1.cell? ⟨r,0,none⟩=some a/\w1.cell? ⟨r,1,none⟩=some b/\w1.cell? ⟨r,2,none⟩=some c:=by simp [World.cell?,h]
def tw (W:aL->aL->dQ):dQ->dQ->dQ
 |.inr e,_=>.inr e
 |.inl _,.inr e=>.inr e
 |.inl l,.inl r=>if l.null||r.null then .inl eW else W l r
theorem adG {a b:World}{lo q q2 q3:Nat}{t t2 t3:TypeId}{fv gv wv:Value}{ok:List aL->Prop}{okc:aL->aL->Prop}{F G:List aL->dQ}{W:aL->aL->dQ}(hc:ef a lo fv ok F)(UT:ef a lo gv ok G)(hw:uz a lo wv okc W)(uA:∀row,ok row->∀c d,F row=.inl c->G row=.inl d->c.null=false->d.null=false->okc c d)(hk:jy lo a.heap.size a b)(hq:b.heap[q]?=some (.cells #[fv] t (0,0)))(Cw:b.heap[q2]?=some (.cells #[gv] t2 (0,0)))(Hc:b.heap[q3]?=some (.cells #[wv] t3 (0,0))){bv rv:Value}{cs:List (List aL)}{rows:List Nat}(hb:iC b bv cs)(hr:kF b rv rows)(mC:yQ cs rows)(hl:rows.length<=64)(kW:∀r∈rows,ok (rowOf cs r)) :
 Calls Tryz.prog 266 #[bv,rv,.pointer (some ⟨q,0,none⟩),.pointer (some ⟨q2,0,none⟩),.pointer (some ⟨q3,0,none⟩)] b λr b'=>∃v,r=.returned v/\b'.ownsRow b.heap.size 247 4 v rows.length ((rows.map λr=>tw W (F (rowOf cs r)) (G (rowOf cs r))).flatMap iD)/\Below b.heap.size b b':=by
 obtain ⟨n,iJ,rfl,hE,hC⟩:=hc;obtain ⟨n1,wH,rfl,hE1,hC1⟩:=UT;obtain ⟨n2,iy,rfl,hE2,hC2⟩:=hw;have HC:=hide (hC b hk bv cs rv rows hb hr mC hl kW);have NS:=hide (λw (bL:Below b.heap.size b w)=>hC1 w (hk.below bL) bv cs rv rows (hb.below bL (af _)) (bF.below hr bL (af _)) mC hl kW);have HW:=hide hC2;have HK:=hide hk;have G9:=hide (λr (h:r∈rows)=>uA _ (kW r h));have VR:=hide Cw;have HQ3:=hide Hc;have c0:=cell0 hq 0;simp at c0;have V6:=az Cw;have V7:=az Hc;unfold Enters at hE hE1 hE2;clear hC hC1 hC2 hk hb hr hq Cw Hc mC kW uA;go_enter Tryz.func266,Tryz.ntmps266;go_wp2_with fail;refine (ae HC).mono ?_;rintro e w1 ⟨v,rfl,br,bL⟩;obtain ⟨va,cJ,rfl,Eu,GH⟩:=di br;have c1:=cell0 ((bL.block q2 V6).trans (ae VR)) 0;simp at c1;have ahu:=hide (ae NS w1 bL);have lX:=hide br;have eI:=hide bL;have HVA:=hide Eu;clear br bL Eu HC c0;go_wp2_with fail;refine (ae ahu).mono ?_;rintro e w2 ⟨v2,rfl,sY,bO⟩;obtain ⟨va2,Ag,rfl,SD,ahv⟩:=di sY;have amW:Hid (∀g g2,va=some ⟨g,0,none⟩->va2=some ⟨g2,0,none⟩->0<rows.length->g≠g2):=hide (λg g2 h1 h2 h0=>by
  have hgl:g<w1.heap.size:=by
   have ho:=ae lX;rcases ho.2 with ⟨h,-⟩|⟨g',vF,cur,h,-,V8,-⟩
   . rw [h1] at h;cases h
   . rw [h1] at h;cases h;exact az V8
  obtain ⟨g',h3,h4⟩:=SD h0;rw [h2] at h3
  cases h3
  omega)
 have ahw:=hide (du (ae lX) bO);have ahx:=hide sY;have jg:=hide ((ae eI).trans (bO.mono (ae eI).size));have ZS:=hide SD;clear sY bO SD ahu c1 lX eI NS;go_wp2_with fail;go_loopw [21] (λc wr=>∃i:Nat,i<=rows.length/\c=.int .i64 i/\Hid (wr.ownsRow b.heap.size 247 4 (.slice va rows.length cJ) rows.length ((mid (λr=>tw W (F (rowOf cs r)) (G (rowOf cs r))) (λr=>F (rowOf cs r)) rows i).flatMap iD))/\Hid (wr.ownsRow w1.heap.size 247 4 (.slice va2 rows.length Ag) rows.length ((rows.map λr=>G (rowOf cs r)).flatMap iD))/\Hid (Below b.heap.size b wr)) (λc _=>rows.length - (intOf c).toNat)
 case atStart=>exact ⟨0,aN _,rfl,hide (by simpa [mid] using ae ahw),ahx,jg⟩
 case round=>
  obtain ⟨i,hi,rfl,HO,ug,oD⟩:=hrel;by_cases cF:i<rows.length
  . have jI:(i:Int)<rows.length:=by omega
    obtain ⟨g,rfl,hg⟩:=ae HVA (by omega);obtain ⟨g2,rfl,qF⟩:=ae ZS (by omega);have iq:g≠g2:=ae amW g g2 rfl rfl (by omega);obtain ⟨r,yR⟩:∃r,rows[i]?=some r:=⟨rows[i],ah cF⟩;have HM:=hide (aG yR);have Bj:=hide yR;have ahy:(rows.map λr=>G (rowOf cs r))[i]?=some (G (rowOf cs r)):=by rw [a7,yR];rfl
    obtain ⟨x1,y1,z1,e1,o7,-⟩:=gE (F (rowOf cs r));obtain ⟨x2,y2,z2,e2,Ah,-⟩:=gE (G (rowOf cs r));obtain ⟨⟨d0,d1,d2,d3⟩,fz⟩:=jK (ae ug) ahy Ah;obtain ⟨o1,yW⟩:∃o,o=Obj.cells #[.bool x2,.int .i64 y2,.string z2,.bool e2] 247:=⟨_,rfl⟩;obtain ⟨o2,ke⟩:∃o,o=Obj.cells #[.bool x1,.int .i64 y1,.string z1,.bool e1] 247:=⟨_,rfl⟩;have Sn:=hide ((ae oD).alloc (ae oD).size o1);have N0:=hide ((ae Sn).alloc (ae Sn).size o2);obtain ⟨⟨u0,u1,u2,u3⟩,fz1⟩:=jK ((ae HO).alloc o1) (wD (ae Bj)) o7;obtain ⟨⟨v0,v1,v2,v3⟩,fz2⟩:=jK (((ae HO).alloc o1).alloc o2) (wD (ae Bj)) o7;have HOB:=hide (((ae HO).alloc o1).alloc o2);have ZT:=hide (((ae ug).alloc o1).alloc o2);have HS:=hide (J8 (f:=λr=>tw W (F (rowOf cs r)) (G (rowOf cs r))) (g:=λr=>F (rowOf cs r)) yR);have amX:=cell0 (((ae N0).block q3 V7).trans (ae HQ3)) 0;simp only [List.getElem?_toArray,List.getElem?_cons_zero] at amX;have wG:Hid (∀(w3:World) (o:dQ) x y z er,w3.ownsRow b.heap.size 247 4 (.slice (some ⟨g,0,none⟩) rows.length cJ) rows.length ((mid (λr=>tw W (F (rowOf cs r)) (G (rowOf cs r))) (λr=>F (rowOf cs r)) rows i).flatMap iD)->w3.ownsRow w1.heap.size 247 4 (.slice (some ⟨g2,0,none⟩) rows.length Ag) rows.length ((rows.map λr=>G (rowOf cs r)).flatMap iD)->Below b.heap.size b w3->iD o=[.bool x,.int .i64 y,.string z,.bool er]->tw W (F (rowOf cs r)) (G (rowOf cs r))=o->
     (∃j:Nat,j<=rows.length/\Value.int .i64 ((i:Int)+1)=.int .i64 j/\Hid (((((w3.setCell ⟨g,i*4,none⟩ (.bool x)).setCell ⟨g,i*4+1,none⟩ (.int .i64 y)).setCell ⟨g,i*4+2,none⟩ (.string z)).setCell ⟨g,i*4+3,none⟩ (.bool er)).ownsRow b.heap.size 247 4 (.slice (some ⟨g,0,none⟩) rows.length cJ) rows.length ((mid (λr=>tw W (F (rowOf cs r)) (G (rowOf cs r))) (λr=>F (rowOf cs r)) rows j).flatMap iD))/\Hid (((((w3.setCell ⟨g,i*4,none⟩ (.bool x)).setCell ⟨g,i*4+1,none⟩ (.int .i64 y)).setCell ⟨g,i*4+2,none⟩ (.string z)).setCell ⟨g,i*4+3,none⟩ (.bool er)).ownsRow w1.heap.size 247 4 (.slice (some ⟨g2,0,none⟩) rows.length Ag) rows.length ((rows.map λr=>G (rowOf cs r)).flatMap iD))/\Hid (Below b.heap.size b ((((w3.setCell ⟨g,i*4,none⟩ (.bool x)).setCell ⟨g,i*4+1,none⟩ (.int .i64 y)).setCell ⟨g,i*4+2,none⟩ (.string z)).setCell ⟨g,i*4+3,none⟩ (.bool er))))):=hide (λw3 o x y z er h1 h2 h3 h4 h5=>by
     have iP:=((((h1.stored (i*4) (.bool x)).1.stored (i*4+1) (.int .i64 y)).1.stored (i*4+2) (.string z)).1.stored (i*4+3) (.bool er)).1;rw [Ac (by rw [Q0];exact cF) o h4,<- h5,ae HS] at iP;refine ⟨i+1,by omega,by push_cast;rfl,hide iP,hide ?_,hide ((((h3.setCell hg _).setCell hg _).setCell hg _).setCell hg _)⟩;have hx:(Value.slice (some ⟨g2,0,none⟩) rows.length Ag).ownBlock≠some g:=by simp [Value.ownBlock];exact λh=>iq h.symm
     exact de (de (de (de h2 hx _) hx _) hx _) hx _)
    have II:Hid (∀(w3:World),w3.ownsRow b.heap.size 247 4 (.slice (some ⟨g,0,none⟩) rows.length cJ) rows.length ((mid (λr=>tw W (F (rowOf cs r)) (G (rowOf cs r))) (λr=>F (rowOf cs r)) rows i).flatMap iD)->tw W (F (rowOf cs r)) (G (rowOf cs r))=F (rowOf cs r)->w3.ownsRow b.heap.size 247 4 (.slice (some ⟨g,0,none⟩) rows.length cJ) rows.length ((mid (λr=>tw W (F (rowOf cs r)) (G (rowOf cs r))) (λr=>F (rowOf cs r)) rows (i+1)).flatMap iD)):=hide (λw3 h1 h2=>by
     rw [<- LJ (f:=λr=>tw W (F (rowOf cs r)) (G (rowOf cs r))) (g:=λr=>F (rowOf cs r)) (ae Bj) h2];exact h1)
    clear yR ahy
    cases hf:F (rowOf cs r) with
    |inr e=>
      rw [hf] at o7;simp [iD] at o7;obtain ⟨rfl,rfl,rfl,rfl⟩:=o7;have HT:=hide (show tw W (F (rowOf cs r)) (G (rowOf cs r))=F (rowOf cs r) by rw [hf];rfl);clear hf Ah;subst yW;subst ke;go_wp2_with fail;go_roundw
      case rel=>exact ⟨i+1,by omega,by go_num,hide (ae II _ (ae HOB) (ae HT)),ZT,N0⟩
      case measure=>simp [intOf];omega
    |inl c=>
      rw [hf] at o7;simp [iD] at o7;obtain ⟨rfl,rfl,rfl,rfl⟩:=o7
      cases iu:G (rowOf cs r) with
      |inr e=>
        have CA:=hide (ae wG _ (.inr e) false 0 ⟨#[]⟩ true (ae HOB) (ae ZT) (ae N0) rfl (by rw [hf,iu];rfl));rw [iu] at Ah;simp [iD] at Ah;obtain ⟨rfl,rfl,rfl,rfl⟩:=Ah;clear hf iu;subst yW;subst ke;go_wp2_with fail;go_roundw
        case rel=>exact ae CA
        case measure=>simp [intOf];omega
      |inl d=>
        obtain ⟨cn,cN,cS⟩:=c;obtain ⟨dn,dN,dS⟩:=d;rw [iu] at Ah;simp [iD] at Ah;obtain ⟨rfl,rfl,rfl,rfl⟩:=Ah
        dsimp only at *;by_cases hn:cn=true\/dn=true
        . have CA:=hide (ae wG _ (.inl eW) true 0 ⟨#[]⟩ false (ae HOB) (ae ZT) (ae N0) rfl (by rw [hf,iu];simp [tw];rcases hn with h|h<;>simp [h]))
          clear hf iu;subst yW;subst ke
          cases cn<;>cases dn<;>first
           | (simp at hn;done)
           | (clear hn
              go_wp2_with fail;go_roundw
              case rel=>exact ae CA
              case measure=>simp [intOf];omega)
        . obtain rfl:cn=false:=by simpa using λh=>hn (.inl h)
          obtain rfl:dn=false:=by simpa using λh=>hn (.inr h)
          have vG:=hide (ae HW _ ((ae HK).below (ae N0)) ⟨false,cN,cS⟩ ⟨false,dN,dS⟩ (ae G9 r (ae HM) _ _ hf iu rfl rfl));have HT:=hide (show tw W (F (rowOf cs r)) (G (rowOf cs r))=W ⟨false,cN,cS⟩ ⟨false,dN,dS⟩ by rw [hf,iu];simp [tw]);obtain ⟨x,y,z,er,hoL,hoV⟩:=gE (W ⟨false,cN,cS⟩ ⟨false,dN,dS⟩);have HV:=hide hoV;have HOL:=hide hoL;clear hf iu hn hoL hoV;subst yW;subst ke;unfold jx at vG;go_wp2_with fail;refine (ae vG).mono ?_;rintro e w3 ⟨rfl,eD⟩;rw [ae HV];have CA:=hide (ae wG w3 (W ⟨false,cN,cS⟩ ⟨false,dN,dS⟩) x y z er (du (ae HOB) eD) (du (ae ZT) eD) ((ae N0).trans (eD.mono (ae N0).size)) (ae HOL) (ae HT));obtain ⟨⟨t0,t1,t2,t3⟩,fz3⟩:=jK (du (ae HOB) eD) (wD (ae Bj)) (gE (F (rowOf cs r))).choose_spec.choose_spec.choose_spec.choose_spec.1;clear eD;go_wp2_with fail;go_roundw
          case rel=>exact ae CA
          case measure=>simp [intOf];omega
  . obtain rfl:i=rows.length:=by omega
    have ho:=ae HO;unfold mid at ho;rw [fI,iO,qP,bH] at ho;have JW:=hide ho;clear ho;go_wp2_with fail;go_ret;exact ⟨_,rfl,ae JW,ae oD⟩
def tA (a b:Int):Int×Bool:=(wrap64 (a - b),decide (a<wrap64 (a - b))==decide (b<0))
def oJ (o:Nat)(a b:Int):Int×Bool:=
 if o=0 then (wrap64 (a+b),decide (wrap64 (a+b)<a)==decide (b<0))
 else if o=1 then tA a b
 else if o=2 then (if a=0 then (0,true) else if a=-1 then tA 0 b else (wrap64 (a*b),IntKind.i64.wrap ((wrap64 (a*b)).tdiv a)==b))
 else if o=3 then (if b=0 then (0,false) else if b=-1 then tA 0 a else (IntKind.i64.wrap (a.tdiv b),true))
 else if b=0 then (0,false) else (a.tmod b,true)
def yY (f:Nat)(args:Array Value)(p:Int×Bool):Prop:=∀w,Calls Tryz.prog f args w λr w'=>r=.returned (.tuple #[.int .i64 p.1,.bool p.2])/\Below w.heap.size w w'
theorem Ke (a b:Int):yY 251 #[.int .i64 a,.int .i64 b] (tA a b):=by
 intro w;go_enter Tryz.func251,Tryz.ntmps251;go_wp2_with fail
 (try simp only [Exit.inBlock,Exit.then])
 refine ay (v:=.tuple #[.int .i64 (wrap64 (a - b)),.bool (decide (a<wrap64 (a - b))==decide (b<0))]) (by simp [results,Tryz.results251,go_sem];try rfl) rfl ⟨rfl,ag _ _⟩
theorem ahA (a b:Int):yY 281 #[.int .i64 a,.int .i64 b] (oJ 0 a b):=by
 intro w;go_enter Tryz.func281,Tryz.ntmps281;go_wp2_with fail
 (try simp only [Exit.inBlock,Exit.then])
 refine ay (v:=.tuple #[.int .i64 (wrap64 (a+b)),.bool (decide (wrap64 (a+b)<a)==decide (b<0))]) (by simp [results,Tryz.results281,go_sem];try rfl) rfl ⟨rfl,ag _ _⟩
theorem adH (a b:Int):yY 282 #[.int .i64 a,.int .i64 b] (oJ 2 a b):=by
 intro w;by_cases h0:a=0
 . subst h0
   go_enter Tryz.func282,Tryz.ntmps282;go_wp2_with fail
   (try simp only [Exit.inBlock,Exit.then])
   exact ay (v:=.tuple #[.int .i64 0,.bool true]) (by simp [results,Tryz.results282,go_sem];try rfl) rfl ⟨rfl,ag _ _⟩
 . by_cases h1:a=-1
   . subst h1
     have HD:=hide (Ke 0 b w);have HE:=hide (show oJ 2 (-1) b=tA 0 b from rfl);rw [ae HE];generalize tA 0 b=p at *;go_enter Tryz.func282,Tryz.ntmps282;go_wp2_with fail;refine (ae HD).mono ?_;rintro r w1 ⟨rfl,bL⟩;have eI:=hide bL;clear bL;go_wp2_with fail
     (try simp only [Exit.inBlock,Exit.then])
     exact ay (v:=.tuple #[.int .i64 p.1,.bool p.2]) (by simp [results,Tryz.results282,go_sem];try rfl) rfl ⟨rfl,ae eI⟩
   . have e0:(a==0)=false:=by rw [aj];exact h0
     have e1:(a==-1)=false:=by rw [aj];exact h1
     have HE:=hide (show oJ 2 a b=(wrap64 (a*b),IntKind.i64.wrap ((wrap64 (a*b)).tdiv a)==b) from by simp [oJ,h0,h1]);obtain ⟨q,hq⟩:∃q,IntKind.i64.wrap ((wrap64 (a*b)).tdiv a)=q:=⟨_,rfl⟩;rw [hq] at HE;go_enter Tryz.func282,Tryz.ntmps282;go_wp2_with fail;go_region
     all_goals
      (try go_wp2_with fail)
      (try simp only [Exit.inBlock,Exit.then])
      refine ay (v:=.tuple #[.int .i64 (wrap64 (a*b)),.bool (q==b)]) (by simp [results,Tryz.results282,go_sem];try rfl) rfl ?_;exact ⟨by rw [ae HE],by repeat (first|exact ag _ _|refine aJ ?_)⟩
theorem adI (a b:Int):yY 283 #[.int .i64 a,.int .i64 b] (oJ 3 a b):=by
 intro w;by_cases h0:b=0
 . subst h0
   go_enter Tryz.func283,Tryz.ntmps283;go_wp2_with fail
   (try simp only [Exit.inBlock,Exit.then])
   exact ay (v:=.tuple #[.int .i64 0,.bool false]) (by simp [results,Tryz.results283,go_sem];try rfl) rfl ⟨rfl,ag _ _⟩
 . by_cases h1:b=-1
   . subst h1
     have HD:=hide (Ke 0 a w);rw [show oJ 3 a (-1)=tA 0 a from rfl];generalize tA 0 a=p at *;go_enter Tryz.func283,Tryz.ntmps283;go_wp2_with fail;refine (ae HD).mono ?_;rintro r w1 ⟨rfl,bL⟩;have eI:=hide bL;clear bL;go_wp2_with fail
     (try simp only [Exit.inBlock,Exit.then])
     exact ay (v:=.tuple #[.int .i64 p.1,.bool p.2]) (by simp [results,Tryz.results283,go_sem];try rfl) rfl ⟨rfl,ae eI⟩
   . have e0:(b==0)=false:=by rw [aj];exact h0
     have e1:(b==-1)=false:=by rw [aj];exact h1
     have HE:=hide (show oJ 3 a b=(IntKind.i64.wrap (a.tdiv b),true) from by simp [oJ,h0,h1]);obtain ⟨q,hq⟩:∃q,IntKind.i64.wrap (a.tdiv b)=q:=⟨_,rfl⟩;rw [hq] at HE;go_enter Tryz.func283,Tryz.ntmps283;go_wp2_with fail
     (try go_region)
     all_goals
      (try go_wp2_with fail)
      (try simp only [Exit.inBlock,Exit.then])
      refine ay (v:=.tuple #[.int .i64 q,.bool true]) (by simp [results,Tryz.results283,go_sem];try rfl) rfl ?_;exact ⟨by rw [ae HE],by repeat (first|exact ag _ _|refine aJ ?_)⟩
theorem ahB (a b:Int):yY 284 #[.int .i64 a,.int .i64 b] (oJ 4 a b):=by
 intro w;by_cases h0:b=0
 . subst h0
   go_enter Tryz.func284,Tryz.ntmps284;go_wp2_with fail
   (try simp only [Exit.inBlock,Exit.then])
   exact ay (v:=.tuple #[.int .i64 0,.bool false]) (by simp [results,Tryz.results284,go_sem];try rfl) rfl ⟨rfl,ag _ _⟩
 . have e0:(b==0)=false:=by rw [aj];exact h0
   have HE:=hide (show oJ 4 a b=(a.tmod b,true) from by simp [oJ,h0]);obtain ⟨q,hq⟩:∃q,a.tmod b=q:=⟨_,rfl⟩;rw [hq] at HE;go_enter Tryz.func284,Tryz.ntmps284;go_wp2_with fail
   (try go_region)
   all_goals
    (try go_wp2_with fail)
    (try simp only [Exit.inBlock,Exit.then])
    refine ay (v:=.tuple #[.int .i64 q,.bool true]) (by simp [results,Tryz.results284,go_sem];try rfl) rfl ?_;exact ⟨by rw [ae HE],by repeat (first|exact ag _ _|refine aJ ?_)⟩
theorem adJ (o:Nat)(ho:o<=4)(a b:Int):yY 271 #[.int .i64 o,.int .i64 a,.int .i64 b] (oJ o a b):=by
 intro w;have h4:o=0\/o=1\/o=2\/o=3\/o=4:=by omega
 have H0:=hide (ahA a b w);have H1:=hide (show Calls _ _ _ _ _ from Ke a b w);rw [show tA a b=oJ 1 a b from rfl] at H1;have H2:=hide (adH a b w);have H3:=hide (adI a b w);have H4:=hide (ahB a b w);clear ho;rcases h4 with rfl|rfl|rfl|rfl|rfl<;>(
  go_enter Tryz.func271,Tryz.ntmps271;go_wp2_with fail
  first
   |refine (ae H0).mono ?_
   |refine (ae H1).mono ?_
   |refine (ae H2).mono ?_
   |refine (ae H3).mono ?_
   |refine (ae H4).mono ?_
  rintro r w1 ⟨rfl,bL⟩;have eI:=hide bL;clear bL;go_wp2_with fail
  (try simp only [Exit.inBlock,Exit.then])
  exact ay (v:=.tuple #[.int .i64 (oJ _ a b).1,.bool (oJ _ a b).2]) (by simp [results,Tryz.results271,go_sem];try rfl) rfl ⟨rfl,ae eI⟩)
def LS (p:Int×Bool):dQ:=if p.2 then .inl (oA p.1) else .inr 0
theorem tB (h:Bool)(w:World):Calls Tryz.prog 118 #[.bool h] w λe w'=>e=.returned (yP (.inl (jr h)))/\Below w.heap.size w w':=by
 cases h
 all_goals
  go_enter Tryz.func118,Tryz.ntmps118;go_wp2_with fail;refine ay (v:=.agg #[.bool false,.int .i64 _,.string ⟨#[]⟩,.bool false]) (by simp [results,Tryz.results118,go_sem];rfl) rfl ?_;exact ⟨rfl,by repeat (first|exact ag _ _|refine cy ?_ (by simp) _|refine df ?_ (by simp) _)⟩
theorem LU (p:Int×Bool)(w:World):Calls Tryz.prog 250 #[.int .i64 p.1,.bool p.2] w λe w'=>e=.returned (yP (LS p))/\Below w.heap.size w w':=by
 obtain ⟨n,h⟩:=p
 cases h
 all_goals
  go_enter Tryz.func250,Tryz.ntmps250;go_wp2_with fail;refine ay (v:=.agg #[.bool false,.int .i64 _,.string ⟨#[]⟩,.bool _]) (by simp [results,Tryz.results250,go_sem];exact ⟨rfl,rfl⟩) rfl ?_;exact ⟨rfl,by repeat (first|exact ag _ _|refine cy ?_ (by simp) _|refine df ?_ (by simp) _)⟩
def yZ (o:Nat)(d:Int):Bool:=if o=5 then decide (d=0) else if o=6 then decide (d≠0) else if o=7 then decide (d<0) else if o=8 then decide (d<=0) else if o=9 then decide (d>0) else decide (d>=0)
theorem SE (o:Nat)(h1:5<=o)(h2:o<=10)(d:Int)(w:World):Calls Tryz.prog 268 #[.int .i64 o,.int .i64 d] w λe w'=>e=.returned (.bool (yZ o d))/\w'=w:=by
 have h6:o=5\/o=6\/o=7\/o=8\/o=9\/o=10:=by omega
 clear h1 h2;rcases h6 with rfl|rfl|rfl|rfl|rfl|rfl
 all_goals
  go_enter Tryz.func268,Tryz.ntmps268;go_wp2_with fail;go_ret;exact ⟨by first|rfl|(congr 1;simp [yZ];done)|(simp [yZ,bne,BEq.beq];done),rfl⟩
abbrev pI:Obj:=.cells #[.bool false,.int .i64 0,.string ⟨#[]⟩,.bool false] 247
abbrev lg (c:aL):Obj:=.cells #[.bool c.null,.int .i64 c.n,.string c.s] 214
theorem SF {w W w1:World}{B r:Nat}(hr:W.heap[r]?=some (.cells #[.bool false,.int .i64 0,.string ⟨#[]⟩,.bool false] 247 (0,0)))(h0:Below B w W)(hb:Below W.heap.size W w1)(hB:B<=r) :
 (w1.cell? ⟨r,0,none⟩=some (.bool false)/\w1.cell? ⟨r,1,none⟩=some (.int .i64 0)/\w1.cell? ⟨r,2,none⟩=some (.string ⟨#[]⟩)/\w1.cell? ⟨r,3,none⟩=some (.bool false))/\(w1.frozen? ⟨r,0,none⟩=false/\w1.frozen? ⟨r,1,none⟩=false/\w1.frozen? ⟨r,2,none⟩=false/\w1.frozen? ⟨r,3,none⟩=false)/\
 ∀a b c d,Below B w ((((w1.setCell ⟨r,0,none⟩ a).setCell ⟨r,1,none⟩ b).setCell ⟨r,2,none⟩ c).setCell ⟨r,3,none⟩ d):=by
 have h1:=(hb.block r (az hr)).trans hr;refine ⟨⟨cell0 h1 0,cell0 h1 1,cell0 h1 2,cell0 h1 3⟩,⟨lz h1 0,lz h1 1,lz h1 2,lz h1 3⟩,λa b c d=>?_⟩;have hW:B<=W.heap.size:=by have:=az hr;omega
 have:=h0.trans (hb.mono hW);exact (((this.setCell hB _).setCell hB _).setCell hB _).setCell hB _
theorem sK (w:World)(o o2:Obj):Below w.heap.size w ((w.alloc o).alloc o2)/\((w.alloc o).alloc o2).heap[w.heap.size+1]?=some o2/\((w.alloc o).alloc o2).heap[w.heap.size]?=some o:=by
 refine ⟨((ag _ _).alloc (af _) _).alloc (by simp) _,?_,(bA _ _ _ (by simp)).trans (ai w _)⟩;have:=ai (w.alloc o) o2;simpa using this
theorem Ai (w:World)(o o2 o3:Obj):Below w.heap.size w (((w.alloc o).alloc o2).alloc o3)/\(((w.alloc o).alloc o2).alloc o3).heap[w.heap.size+2]?=some o3:=by
 refine ⟨(sK w o o2).1.alloc (by simp;omega) _,?_⟩;have:=ai ((w.alloc o).alloc o2) o3;simpa using this
theorem adK (c:aL)(w:World):Calls Tryz.prog 248 #[jx c] w λe w'=>e=.returned (yP (.inl (jr (decide (c.n=0)))))/\Below w.heap.size w w':=by
 have h2:=sK w (lg c) pI;have HT:=hide (tB (c.n==0) ((w.alloc (lg c)).alloc pI));have HR:=hide (λw1 (h:Below _ _ w1)=>SF h2.2.1 h2.1 h (by omega));clear h2;unfold jx;go_enter Tryz.func248,Tryz.ntmps248;go_wp2_with fail;refine (ae HT).mono ?_;rintro e w1 ⟨rfl,hb⟩;obtain ⟨x,y,z,er,hL,hV⟩:=gE (.inl (jr (c.n==0)));obtain ⟨⟨q0,q1,q2,q3⟩,⟨z0,z1,z2,z3⟩,hE⟩:=ae HR w1 hb;have HE:=hide hE;have HV:=hide hV;rw [hV];clear hb hE hL hV;go_wp2_with fail
 (try simp only [Exit.inBlock,Exit.then])
 refine ay (v:=.agg #[.bool x,.int .i64 y,.string z,.bool er]) (by simp [results,Tryz.results248,go_sem,q0,q1,q2,q3];try rfl) rfl ?_;exact ⟨by rw [<- ae HV];rfl,ae HE _ _ _ _⟩
theorem adL (c:aL)(w:World):Calls Tryz.prog 249 #[jx c] w λe w'=>e=.returned (yP (LS (tA 0 c.n)))/\Below w.heap.size w w':=by
 have h2:=sK w (lg c) pI;have HD:=hide (Ke 0 c.n ((w.alloc (lg c)).alloc pI));have HR:=hide (λw1 (h:Below _ _ w1)=>SF h2.2.1 h2.1 h (by omega));obtain ⟨p,hp⟩:∃p,p=tA 0 c.n:=⟨_,rfl⟩;rw [<- hp] at HD ⊢;have HN:=hide (LU p);clear h2 hp;unfold jx;go_enter Tryz.func249,Tryz.ntmps249;go_wp2_with fail;refine (ae HD).mono ?_;rintro e w1 ⟨rfl,bL⟩;have eI:=hide bL;clear bL;go_wp2_with fail;refine (ae HN _).mono ?_;rintro e w2 ⟨rfl,hb⟩;obtain ⟨x,y,z,er,hL,hV⟩:=gE (LS p);obtain ⟨⟨q0,q1,q2,q3⟩,⟨z0,z1,z2,z3⟩,hE⟩:=ae HR w2 ((ae eI).trans (hb.mono (ae eI).size));have HE:=hide hE;have HV:=hide hV;rw [hV];clear hb hE hL hV;go_wp2_with fail
 (try simp only [Exit.inBlock,Exit.then])
 refine ay (v:=.agg #[.bool x,.int .i64 y,.string z,.bool er]) (by simp [results,Tryz.results249,go_sem,q0,q1,q2,q3];try rfl) rfl ?_;exact ⟨by rw [<- ae HV],ae HE _ _ _ _⟩
theorem adM (c:aL)(no:Bool)(pv:Value){q:Nat}{t:TypeId}{w:World}(hq:w.heap[q]?=some (.cells #[pv,.bool no] t (0,0))):Calls Tryz.prog 238 #[jx c,.pointer (some ⟨q,0,none⟩)] w λe w'=>e=.returned (yP (.inl (jr (c.null != no))))/\Below w.heap.size w w':=by
 have h2:=sK w (lg c) pI;have HT:=hide (tB (c.null != no) ((w.alloc (lg c)).alloc pI));have HR:=hide (λw1 (h:Below _ _ w1)=>SF h2.2.1 h2.1 h (by omega));have c1:=cell0 ((h2.1.block q (az hq)).trans hq) 1;simp only [List.getElem?_toArray,List.getElem?_cons_zero,List.getElem?_cons_succ] at c1;have BA:=az hq;clear h2 hq;unfold jx;go_enter Tryz.func238,Tryz.ntmps238;go_wp2_with fail;refine (ae HT).mono ?_;rintro e w1 ⟨rfl,hb⟩;obtain ⟨x,y,z,er,hL,hV⟩:=gE (.inl (jr (c.null != no)));obtain ⟨⟨q0,q1,q2,q3⟩,⟨z0,z1,z2,z3⟩,hE⟩:=ae HR w1 hb;have HE:=hide hE;have HV:=hide hV;rw [hV];clear hb hE hL hV;go_wp2_with fail
 (try simp only [Exit.inBlock,Exit.then])
 refine ay (v:=.agg #[.bool x,.int .i64 y,.string z,.bool er]) (by simp [results,Tryz.results238,go_sem,q0,q1,q2,q3];try rfl) rfl ?_;exact ⟨by rw [<- ae HV],ae HE _ _ _ _⟩
def unO (W:aL->dQ)(c:aL):dQ:=if c.null then .inl c else W c
theorem ahC {a b:World}{lo q:Nat}{t:TypeId}{fv:Value}{ok:aL->Prop}{W:aL->dQ}(hw:tf a lo fv ok W)(hk:jy lo a.heap.size a b)(hq:b.heap[q]?=some (.cells #[fv] t (0,0)))(c:aL)(hc:ok c) :
 Calls Tryz.prog 247 #[jx c,.pointer (some ⟨q,0,none⟩)] b λe b'=>e=.returned (yP (unO W c))/\Below b.heap.size b b':=by
 obtain ⟨n,iJ,rfl,hE,hC⟩:=hw;have h2:=sK b (lg c) pI;have HC:=hide (hC ((b.alloc (lg c)).alloc pI) (hk.below h2.1) c hc);have HR:=hide (λw1 (h:Below _ _ w1)=>SF h2.2.1 h2.1 h (by omega));have Gt:=cell0 ((h2.1.block q (az hq)).trans hq) 0;simp only [List.getElem?_toArray,List.getElem?_cons_zero] at Gt;have BA:=az hq;unfold Enters at hE;clear hC hk hq h2 hc;obtain ⟨nl,cn,cs⟩:=c;unfold jx at HC ⊢
 cases nl with
 |true=>
   go_enter Tryz.func247,Tryz.ntmps247;go_wp2_with fail
   (try simp only [Exit.inBlock,Exit.then])
   refine ay (v:=.agg #[.bool true,.int .i64 cn,.string cs,.bool false]) (by simp [results,Tryz.results247,go_sem];try rfl) rfl ?_;refine ⟨rfl,?_⟩
   repeat (first|exact ag _ _|refine cy ?_ (by simp) _|refine df ?_ (by simp) _)
 |false=>
   have HE:=hide (show unO W ⟨false,cn,cs⟩=W ⟨false,cn,cs⟩ from rfl);obtain ⟨O,hO⟩:∃O,O=W ⟨false,cn,cs⟩:=⟨_,rfl⟩;rw [<- hO] at HC HE;rw [ae HE];clear hO HE;go_enter Tryz.func247,Tryz.ntmps247;go_wp2_with fail;refine (ae HC).mono ?_;rintro e w1 ⟨rfl,hb⟩;obtain ⟨x,y,z,er,hL,hV⟩:=gE O;obtain ⟨⟨q0,q1,q2,q3⟩,⟨z0,z1,z2,z3⟩,hE2⟩:=ae HR w1 hb;have HE2:=hide hE2;have HV:=hide hV;rw [hV];clear hb hE2 hL hV;go_wp2_with fail
   (try simp only [Exit.inBlock,Exit.then])
   refine ay (v:=.agg #[.bool x,.int .i64 y,.string z,.bool er]) (by simp [results,Tryz.results247,go_sem,q0,q1,q2,q3];try rfl) rfl ?_;exact ⟨by rw [<- ae HV],ae HE2 _ _ _ _⟩
theorem ad0 (c:cU)(s:ByteArray)(q:Nat)(w:World)(hq:w.cell? ⟨q,0,none⟩=some (.string s))(hl:q<w.heap.size):Calls Tryz.prog 223 #[.agg #[.string c.1,.int .i64 c.2],.pointer (some ⟨q,0,none⟩)] w λr w'=>r=.returned (.bool (kh c.1 s))/\Below w.heap.size w w':=by
 have hb:Below w.heap.size w (w.alloc (.cells #[.string c.1,.int .i64 c.2] 191)):=(ag _ _).alloc (af _) _;have Cw:=(hb.cell (p:=⟨q,0,none⟩) hl).trans hq;have HB:=hide hb;have he:(c.1.toList==s.toList)=kh c.1 s:=lC c.1 s;clear hb hq;go_enter Tryz.func223,Tryz.ntmps223;go_wp2_with fail
 (try (go_quiet (fail);go_wp2_with fail))
 go_ret;exact ⟨rfl,by repeat (first|exact ae HB|refine aJ ?_|refine below_drewN ?_ _)⟩
theorem Z3 (cols:List cU)(v:Value)(s:ByteArray)(q:Nat)(w:World)(hc:gq w v cols)(hl:cols.length<=100000)(hq:w.cell? ⟨q,0,none⟩=some (.string s))(BA:q<w.heap.size):Calls Tryz.prog 222 #[v,.func (.func 223) #[] #[.pointer (some ⟨q,0,none⟩)]] w λr w'=>r=.returned (.int .i64 (yN cols s))/\Below w.heap.size w w':=by
 have HC:=hide hc;have HQ:=hide hq;obtain ⟨va,cJ,hv⟩:=hc.slice;subst hv;clear hc hq;go_enter Tryz.func222,Tryz.ntmps222;go_wp2_with fail;go_loopw [8] (λc wr=>∃i:Nat,i<=cols.length/\c=.int .i64 i/\Hid (Below w.heap.size w wr)/\Hid (∀(j:Nat) (c:cU),j<i->cols[j]?=some c->kh c.1 s=false)) (λc _=>cols.length - (intOf c).toNat)
 case atStart=>exact ⟨0,aN _,rfl,hide (ag _ _),hide (λj c hj _=>by omega)⟩
 case round=>
  obtain ⟨i,hi,rfl,HB,HN⟩:=hrel;by_cases cF:i<cols.length
  . have jI:(i:Int)<cols.length:=by omega
    obtain ⟨c,lL⟩:∃c,cols[i]?=some c:=⟨cols[i],ah cF⟩;obtain ⟨g,go,cap,he,c0,c1⟩:=((ae HC).below (ae HB) (af _)).get lL
    cases he
    have HL:=hide (ad0 c s q wr (((ae HB).cell (p:=⟨q,0,none⟩) BA).trans (ae HQ)) (aF BA (ae HB).size));have Ow:=hide lL;clear lL;go_wp2_with fail;refine (ae HL).mono ?_;rintro r w2 ⟨rfl,bO⟩;have jg:=hide ((ae HB).trans (bO.mono (ae HB).size));clear bO
    cases he:kh c.1 s with
    |true=>
      have HA:=hide (show yN cols s=i from by unfold yN;rw [ZG (ae Ow) he (ae HN)]);clear he;go_wp2_with fail;go_ret;exact ⟨by rw [ae HA];rfl,ae jg⟩
    |false=>
      have HF:=hide he;clear he;go_wp2_with fail;refine ⟨⟨i+1,by omega,by go_num,jg,hide (λj c' hj JI=>?_)⟩,by simp [intOf];omega⟩;by_cases JJ:j=i
      . subst JJ
        have:=ae Ow;rw [this] at JI
        cases JI
        exact ae HF
      . exact ae HN j c' (by omega) JI
  . have jI:¬(i:Int)<cols.length:=by omega
    go_wp2_with fail;go_ret;refine ⟨?_,ae HB⟩;have:J7 cols s=none:=ZF (λj c hj=>ae HN j c (by have:=(ak.mp hj).1;omega) hj);unfold yN;rw [this];rfl
theorem DR (cols:List cU)(v:Value)(s:ByteArray)(w:World)(hc:gq w v cols)(hl:cols.length<=100000):Calls Tryz.prog 221 #[v,.string s] w λr w'=>r=.returned (.int .i64 (yN cols s))/\Below w.heap.size w w':=by
 have hb:Below w.heap.size w (w.alloc (.cells #[.string s] 9)):=(ag _ _).alloc (af _) _;have HC:=hide (Z3 cols v s w.heap.size _ (hc.below hb (af _)) hl (by have h:=ai w (.cells #[.string s] 9);simp only [World.cell?,h];rfl) (by simp));have HB:=hide hb;obtain ⟨va,cJ,hv⟩:=hc.slice;subst hv;clear hc hb;go_enter Tryz.func221,Tryz.ntmps221;go_wp2_with fail;refine (ae HC).mono ?_;rintro r w1 ⟨rfl,bL⟩;have eI:=hide ((ae HB).trans (bL.mono (by simp)));clear bL;go_wp2_with fail;go_ret;exact ⟨rfl,ae eI⟩
end Go.Proofs.YteniahoehoncjaaGreatDoor
