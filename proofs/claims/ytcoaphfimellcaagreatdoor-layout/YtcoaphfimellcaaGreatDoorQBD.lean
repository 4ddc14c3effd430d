import Derived.Test.YtcoaphfimellcaaGreatDoorQBC
import Derived.Deep.RegionHeld3
set_option maxHeartbeats 0
set_option maxRecDepth 100000
namespace Go.Proofs.YtcoaphfimellcaaGreatDoor
open Go.RowKit
open _root_.Go.Proofs.Tryz
open Option renaming some→σ,none→ν
open Go.IntKind renaming i64→κ
open Go.Ending renaming returned→τ
open Go.Obj renaming cells→ξ
open Go renaming World→ω,Value→υ
open Go.RowKit renaming Below→δ
open Go.Value renaming int→ι,slice→ψ,pointer→π,agg→χ
variable{w r:ω}{m k:Nat}{x u:υ}{v:Array υ}{n:TypeId}{i:Nat->Prop}{t:List Nat}{s:Obj}
section
open Go.Shelf
attribute [local go_sem] kq
set_option linter.unusedSimpArgs false
theorem SI{W:ω}(b:m=W.heap.size):(W.alloc s).heap[m]?=σ s:=by subst b;exact au W s
theorem Ii{W:ω}{c:Obj}(b:W.heap[m]?=σ c):(W.alloc s).heap[m]?=σ c:=(dZ W s (aw b)).trans b
theorem gu.lower{base base':Nat}{cv:υ}{vs:List υ}{L:List (List aD)}(b:gu w base cv vs L)(c:base'<=base):gu w base' cv vs L:=⟨eB b.row c,⟨b.each.len,λi j d f g=>eB (b.each.own i j d f g) c,b.each.apart⟩,b.off⟩
theorem gu.Ek{base:Nat}{cv:υ}{vs:List υ}{L:List (List aD)}(b:gu w base cv vs L)(o:w.heap[m]?=σ (ξ v n (0,0)))(j:n≠230/\n≠229):gu (w.setCell ⟨m,k,ν⟩ x) base cv vs L:=by have d:=b.FM o j;have f:=grownBy_setCell w ⟨m,k,ν⟩ x;exact⟨dH b.row f (λg c e=>by cases c;exact d (.inl e)),b.each.kept f (λk x g c i e=>by cases c;exact d (.inr ⟨x,aA i,e⟩)),b.off⟩
theorem SJ{W0:ω}(b:δ W0.heap.size W0 w)(c:δ w.heap.size w r):δ W0.heap.size W0 r:=b.trans (c.mono b.size)
theorem vA(f:δ w.heap.size w r)(b:Nat)(d:Obj)(c:w.heap[b]?=σ d):r.heap[b]?=σ d:=(f.block b (aw c)).trans c
theorem vm(b:ω)(d c:Obj):((b.alloc d).alloc c).heap[b.heap.size+1]?=σ c:=SI (by simp)
theorem ld(b:ω)(c:Obj):δ b.heap.size b (b.alloc c):=(ah _ _).alloc (ae _) _
theorem aa8(b:ω)(c d:Obj):δ b.heap.size b ((b.alloc c).alloc d):=(ld b c).trans ((ld _ d).mono (by simp))
theorem sP{c x y:υ}(b:w.heap[m]?=σ (ξ #[u,c] n (0,0))):((w.setCell ⟨m,0,ν⟩ x).setCell ⟨m,1,ν⟩ y).heap[m]?=σ (ξ #[x,y] n (0,0)):=aN _ m 1 _ _ _ (aN _ m 0 _ _ _ b)
theorem one_set(b:w.heap[m]?=σ (ξ #[x] n (0,0))):(w.setCell ⟨m,0,ν⟩ u).heap[m]?=σ (ξ #[u] n (0,0)):=aN _ m 0 _ _ _ b
structure zh (W0 W:ω)(cols:List br)(e:Ex)(kv:υ)(R R':List (List aD))(s:KQ)(b8 b9 p:Nat)(cv:υ)(vs:List υ)(wv:υ)(a:ω)(lo:Nat):Prop where
 low:δ W0.heap.size W0 W
 bo:W.heap[b8]?=σ (obJ kv cv)
 bs:W.heap[b9]?=σ (ξ #[π (σ ⟨p,0,ν⟩)] 216 (0,0))
 own:gu W W0.heap.size cv vs (bh cols.length R')
 sv:W.heap[p]?=σ (BL wv s)
 is:vT (λrow=>cU cols row e) R R' s
 work:dJ a lo wv (gI cols) (λrow=>cU cols row e)
 kept:ft lo a.heap.size a W
 off:p<lo\/a.heap.size<=p
 out:∀b,kd cv vs b->b<lo\/a.heap.size<=b
 hp:W0.heap.size<=p
theorem zh.below{W0 W W':ω}{cols:List br}{e:Ex}{kv:υ}{R R':List (List aD)}{d:KQ}{b8 b9 p:Nat}{cv:υ}{vs:List υ}{wv:υ}{a:ω}{lo:Nat}(b:zh W0 W cols e kv R R' d b8 b9 p cv vs wv a lo)(c:δ W.heap.size W W'):zh W0 W' cols e kv R R' d b8 b9 p cv vs wv a lo:=
 ⟨SJ b.low c,vA c _ _ b.bo,vA c _ _ b.bs,b.own.below c,vA c _ _ b.sv,b.is,b.work,b.kept.below c,b.off,b.out,b.hp⟩
theorem zh.turn{W0 W W':ω}{cols:List br}{e:Ex}{kv:υ}{R R':List (List aD)}{j:KQ}{b8 b9 p B:Nat}{cv:υ}{vs:List υ}{wv:υ}{a:ω}{lo:Nat}(b:zh W0 W cols e kv R R' j b8 b9 p cv vs wv a lo)(d:nS B W W')(n:W0.heap.size<=B)(o:a.heap.size<=B):zh W0 W' cols e kv R R' j b8 b9 p cv vs wv a lo:=by
 have g:∀c,c<B->c<W.heap.size->W'.heap[c]?=W.heap[c]?:=λc k m=>by
  have f:W.heap[c]?=σ W.heap[c]:=eu _;rw[f];exact d.eW c _ f (.inl k)
 refine⟨⟨d.os.trans b.low.os,d.tape.trans b.low.tape,d.output.trans b.low.output,ag b.low.size d.size,λc f=>(g c (by omega) (ai f b.low.size)).trans (b.low.block c f)⟩,d.eW _ _ b.bo (.inr rfl),d.eW _ _ b.bs (.inr rfl),b.own.turn d,d.eW _ _ b.sv (.inr rfl),b.is,b.work,⟨ag b.kept.1 d.size,λi l1 l2=>(g i (by omega) (ai l2 b.kept.1)).trans (b.kept.2 i l1 l2)⟩,b.off,b.out,b.hp⟩
theorem zh.SK{W0 W W':ω}{cols:List br}{e:Ex}{kv:υ}{R R':List (List aD)}{v w:KQ}{b8 b9 p:Nat}{cv:υ}{vs:List υ}{wv:υ}{a:ω}{lo:Nat}(b:zh W0 W cols e kv R R' v b8 b9 p cv vs wv a lo)(x:W'.heap[p]?=σ (BL wv w))(g:aX (λd=>d<W.heap.size/\d≠p) W W') :
 W'.heap[b8]?=σ (obJ kv cv)/\W'.heap[b9]?=σ (ξ #[π (σ ⟨p,0,ν⟩)] 216 (0,0))/\gu W' W0.heap.size cv vs (bh cols.length R')/\δ W0.heap.size W0 W'/\ft lo a.heap.size a W':=by
 have t:b8≠p:=λe=>by have c:=b.bo;rw[e,b.sv]at c;cases c
 have u:b9≠p:=λe=>by have c:=b.bs;rw[e,b.sv]at c;cases c
 have m:=b.own.FM b.sv (by decide);have f:∀d,d<W.heap.size->d≠p->W'.heap[d]?=W.heap[d]?:=λd c k=>g.block d ⟨c,k⟩;refine⟨(f _ (aw b.bo) t).trans b.bo,(f _ (aw b.bs) u).trans b.bs,⟨eJ b.own.row (λj i=>f j (b.own.row.lt j i).2 (λe=>m (.inl (e ▸ i)))),⟨b.own.each.len,λs o r c k=>eJ (b.own.each.own s o r c k) (λj i=>f j (b.own.each.lt c i).2 (λe=>m (.inr ⟨o,aA c,e ▸ i⟩))),b.own.each.apart⟩,b.own.off⟩,⟨g.os.trans b.low.os,g.tape.trans b.low.tape,g.output.trans b.low.output,ag b.low.size g.size,λd c=>(f d (ai c b.low.size) (by have:=b.hp;omega)).trans (b.low.block d c)⟩,ag b.kept.1 g.size,λn l1 l2=>(f n (ai l2 b.kept.1) (by have:=b.off;omega)).trans (b.kept.2 n l1 l2)⟩
theorem eC.away{wr:ω}{L:List (List aD)}(t:eC w x L)(y:0<L.length)(z:∀c∈L,0<c.length)(m:δ w.heap.size w wr)(k:∀o,i o->w.heap.size<=o):ik i wr x L:=by obtain⟨vs,g,u⟩:=t;refine⟨λa D c f d=>?_,vs,bu.below g m (ae _),λC c n=>?_⟩;{obtain⟨s,E,r,b,-,A,-⟩:=g.at y;rw[f]at b;cases b;have:=k _ d;simp at this;omega};obtain⟨F,v,j⟩:=u C c n;refine⟨F,v,bu.below j m (ae _),λa D G f d=>?_⟩;obtain⟨s,E,r,b,-,A,-⟩:=bu.at j (z c (aA n));rw[f]at b;cases b;have:=k _ d;simp at this;omega
theorem KV{g i:Type}(d:i->dj)(b:g->i)(c:List g)(f:KQ):kZ d (c.map b) f=((kZ (λa=>d (b a)) c f).1.map b,(kZ (λa=>d (b a)) c f).2):=by unfold kZ;split;{rfl};rw[WT];cases kD (λa=>d (b a)) c<;>simp
structure Bun (W0 Z:ω)(cols:List br)(p:Nat)(cv:υ)(vs:List υ)(wv:υ)(a:ω)(lo:Nat):Prop where
 low:δ W0.heap.size W0 Z
 own:gu Z W0.heap.size cv vs (bh cols.length [])
 sv:Z.heap[p]?=σ (BL wv (0,0,0))
 kept:ft lo a.heap.size a Z
section
variable {W0 Z:ω} {cols:List br} {e:Ex} {kv cv:υ} {b8 b9 p lo:Nat} {wv:υ} {a:ω} {vs:List υ}
theorem Bun.alloc(b:Bun W0 Z cols p cv vs wv a lo)(c:Obj):Bun W0 (Z.alloc c) cols p cv vs wv a lo:=⟨SJ b.low (ld _ _),b.own.below (ld _ _),Ii b.sv,b.kept.below (ld _ _)⟩
theorem Bun.set(b:Bun W0 Z cols p cv vs wv a lo)(c:Z.heap[m]?=σ (ξ v n (0,0)))(d:n=154\/n=216)(g:W0.heap.size<=m/\(m<lo\/a.heap.size<=m)):Bun W0 (Z.setCell ⟨m,k,ν⟩ x) cols p cv vs wv a lo:=by
 have i:p≠m:=λe=>by subst e;have:=b.sv;rw[c]at this;cases this;rcases d with e|e<;>cases e
 refine⟨b.low.setCell g.1 _,b.own.Ek c (by rcases d with rfl|rfl<;>decide),(ay _ _ _ _ i).trans b.sv,by simpa[World.setCell]using b.kept.1,λf l1 l2=>(ay _ _ _ _ (show f≠m by omega)).trans (b.kept.2 f l1 l2)⟩
theorem ajR(b:Bun W0 Z cols p cv vs wv a lo)(f:Z.heap[b8]?=σ (obJ kv cv))(bs:Z.heap[b9]?=σ (ξ #[π (σ ⟨p,0,ν⟩)] 216 (0,0)))(i:∀c,kd cv vs c->c<lo\/a.heap.size<=c)(j:dJ a lo wv (gI cols) (λrow=>cU cols row e))(d:p<lo\/a.heap.size<=p)(g:W0.heap.size<=p) :
 zh W0 Z cols e kv [] [] (0,0,0) b8 b9 p cv vs wv a lo:=⟨b.low,f,bs,b.own,b.sv,vT.nil _,j,b.kept,d,i,g⟩
end
theorem vT.fit{d:List aD->dj}{R R':List (List aD)}{c:KQ}(b:vT d R R' c){n:Nat}(f:R.length<=n)(i:c.2.1=0):c.1<=n/\c.2.2=0:=by
 unfold vT at b
 cases hR:kD d R with
 |inl q=>rw[hR]at b;simp only at b;omega
 |inr g=>rw[hR]at b;simp only at b;rw[b.2];exact⟨ag (CP hR) f,rfl⟩
theorem nW{n:Nat}{c:List (List aD)}{row:List aD}(d:c[m]?=σ row)(g:row.length=n):rowOf (bh n c) m=row:=by apply cB;intro b;unfold rowOf;rw[aV];by_cases f:b<n;{rw[gA f];simp[List.getD,d,List.getElem?_eq_getElem (show b<row.length by omega)]};rw[aZ (by rw[bB];omega),aZ (by omega)];rfl
theorem O2{i:Type}{d f:i->dj}{c:List i}(j:∀b∈c,d b=f b):kD d c=kD f c:=by
 have e:∀(B:List i),(∀b∈B,d b=f b)->dG (λg=>qN (d g)) B=dG (λg=>qN (f g)) B:=by
  intro B
  induction B with
  |nil=>intro _;rfl
  |cons b l o=>intro k;simp only[dG,k b (by simp),o (λr n=>k r (List.mem_cons_of_mem _ n))]
 unfold kD;rw[e c j,uS (λb m=>by rw[j b m])]
theorem E6{g:Type}{c G:g->dj}{b:List g}(d:KQ)(i:∀f∈b,c f=G f):kZ c b d=kZ G b d:=by unfold kZ;rw[O2 i]
theorem El{c:Type}{F:c->dj}{A:List c}{s:KQ}:(∀b∈(kZ F A s).1,b∈A)/\(kZ F A s).1.length<=A.length:=by
 unfold kZ;split;{simp}
 cases hA:kD F A with
 |inl q=>simp
 |inr f=>simp only;rw[Eb hA];exact⟨λb d=>(eA.mp d).1,fH _ _⟩
theorem Xk{n:Nat}{b:List (List aD)}(d:List aD->dj)(f:KQ)(k:∀c∈b,c.length=n):kZ d b f=((kZ (λc=>d (rowOf (bh n b) c)) (List.range b.length) f).1.map (λc=>b.getD c []),(kZ (λc=>d (rowOf (bh n b) c)) (List.range b.length) f).2):=by have e:b=(List.range b.length).map (λc=>b.getD c []):=(by apply cB;intro o;rw[aV];by_cases j:o<b.length;{rw[eP j];simp[List.getD,List.getElem?_eq_getElem j]};rw[aZ (by omega),aZ (by simp;omega)];rfl);have i:=KV d (λc=>b.getD c []) (List.range b.length) f;rw[<- e]at i;rw[i,E6 (G:=λc=>d (rowOf (bh n b) c)) f (λr m=>?_)];have g:=dB.mp m;rw[nW (row:=b[r]) (af g) (k _ (cF _))];simp[List.getD,List.getElem?_eq_getElem g]
theorem zh.next{W0 Wr w1 w2 w3:ω}{cols:List br}{e:Ex}{kv:υ}{R R' R2 k:List (List aD)}{E s:KQ}{b8 b9 p B:Nat}{cv:υ}{vs pZ:List υ}{wv:υ}{a:ω}{lo:Nat}(d:zh W0 Wr cols e kv R R' E b8 b9 p cv vs wv a lo)(n:δ Wr.heap.size Wr w1)(v:w2.heap[p]?=σ (BL wv s))(o:aX (λg=>g<w1.heap.size/\g≠p) w1 w2)(b:ke w2 w3 W0.heap.size cv vs pZ (bh cols.length k))(x:vT (λrow=>cU cols row e) R2 k s) :
 zh W0 w3 cols e kv R2 k s b8 b9 p cv pZ wv a lo/\KeepsFrom B Wr w3:=by
 have t:=d.below n;obtain⟨C,D,f,kl,j⟩:=t.SK v o;refine⟨⟨kl.trans (b.low f (ae _) kl.size),b.box f C (by decide),b.box f D (by decide),b.own,b.box f v (by decide),x,d.work,⟨ag j.1 b.keep.size,λc l1 l2=>(b.old (ai l2 j.1) (λr=>by have:=d.out c r;omega)).trans (j.2 c l1 l2)⟩,d.off,λg r=>?_,d.hp⟩,ag n.size (ag o.size b.keep.size),λc w z A u=>?_⟩;{rcases b.US r with m|m;{exact d.out g m};exact .inr (ag j.1 m)}
 have i:=vA n c w A;have y:c≠p:=λe=>by subst e;rw[t.sv]at i;cases i;cases u
 exact(b.keeps (B:=B) f).same c w z ((o.block c ⟨aw i,y⟩).trans i) u
theorem zh.CZ{W0 Wr w1 w2:ω}{cols:List br}{e:Ex}{kv:υ}{R R':List (List aD)}{L:List (List aD)}{s t:KQ}{b8 b9 p:Nat}{cv:υ}{vs pZ:List υ}{wv:υ}{a:ω}{lo:Nat}(j:zh W0 Wr cols e kv R R' s b8 b9 p cv vs wv a lo)(f:δ Wr.heap.size Wr w1)(k:w2.heap[p]?=σ (BL wv t))(g:aX (λm=>m<w1.heap.size/\m≠p) w1 w2)(r:ke w2 w W0.heap.size cv vs pZ L)(o:Wr.heap[m]?=σ (ξ v n (0,0)))(c:n≠230/\n≠229/\n≠215):w.heap[m]?=σ (ξ v n (0,0)):=by
 have d:=j.below f;have b:=vA f m _ o;have i:m≠p:=λe=>by subst e;rw[d.sv]at b;cases b;exact c.2.2 rfl
 exact r.box (d.SK k g).2.2.1 ((g.block m ⟨aw b,i⟩).trans b) ⟨c.1,c.2.1⟩
attribute [local go_sem] kq
set_option linter.unusedSimpArgs false
theorem C0{cols:List br}:∀{rs:List A8} {l nc:List br},fU cols rs l=.inr nc->nc.length=l.length+rs.length
 |[],l,nc,h=>by cases h;rfl
 |r::t,l,nc,h=>by
   unfold fU at h;split at h
   . cases h
   . cases hk:cH cols r.2.1 with
     |inr b=>rw[hk]at h;cases h
     |inl c=>
       rw[hk]at h;have:=C0 h;rw[az,gX]at this;rw[a7];omega
theorem Bb{cols:List br}:∀{rs:List A8} {l nc:List br},fU cols rs l=.inr nc->∀d∈rs,∃c,cH cols d.2.1=.inl c
 |[],l,nc,h=>by simp
 |d::t,l,nc,h=>by
   unfold fU at h;split at h
   . cases h
   . cases hk:cH cols d.2.1 with
     |inr f=>rw[hk]at h;cases h
     |inl c=>
       rw[hk]at h;intro q b;rcases bF.mp b with rfl|b
       . exact⟨c,hk⟩
       . exact Bb h q b
theorem MC{cols:List br}{rs:List A8}{nc:List br}(c:fU cols rs []=.inr nc){b:A8}(d:rs[m]?=σ b):∃f,cH cols b.2.1=.inl f:=Bb c b (aA d)
theorem uJ{cols:List br}{rs:List A8}{nc:List br}(b:fU cols rs []=.inr nc):nc.length=rs.length:=by have:=C0 b;simpa using this
theorem Tryz.O4:(prog.info? 141).map (λb=>(b.zero,b.size,b.bytes))=σ (σ .nilFunc,1,8):=by kernel_rfl
structure J2 (W wr:ω)(bx:Nat)(cols:List br)(rs:List A8)(CY:υ)(ws:List Jl):Prop where
 box:wr.heap[bx]?=σ (ξ #[CY] 452 (0,0))
 row:wr.ownsRow W.heap.size 141 1 CY ws.length (ws.map (·.wv))
 fs:∀(j:Nat) (x:Jl) (r:A8),ws[j]?=σ x->rs[j]?=σ r->x.F=λrow=>cU cols row r.2.1
 wk:∀x∈ws,ajP wr (gI cols) x
 off:∀x∈ws,∀g,CY.ownBlock=σ g->g<x.lo\/x.a.heap.size<=g
 lo:∀x∈ws,W.heap.size<=x.lo
 keep:aX (λb=>b<W.heap.size/\b≠bx) W wr
 lb:bx<W.heap.size
section
variable {W wr w2:ω} {bx:Nat} {cols:List br} {rs:List A8} {CY:υ} {ws:List Jl}
theorem J2.below(b:J2 W wr bx cols rs CY ws)(c:δ wr.heap.size wr w2):J2 W w2 bx cols rs CY ws:=
 ⟨(c.block _ (aw b.box)).trans b.box,cq b.row c,b.fs,λf d=>⟨(b.wk f d).work,(b.wk f d).kept.below c⟩,b.off,b.lo,b.keep.trans ⟨c.os,c.tape,c.output,c.size,λg i=>c.block g (ai i.1 b.keep.size)⟩,b.lb⟩
theorem J2.more(d:J2 W wr bx cols rs CY ws){a w3:ω}{x:Jl}{I:A8}{g cap:Nat}(n:δ wr.heap.size wr w)(D:δ w.heap.size w a)(Q:rs[ws.length]?=σ I)(O:x.F=λrow=>cU cols row I.2.1)(T:dJ a w.heap.size x.wv (gI cols) x.F)(u:x.a=a)(r:x.lo=w.heap.size)
 (M:w3.ownsRow W.heap.size 141 1 (ψ (σ ⟨g,0,ν⟩) (ws.length+1) cap) (ws.length+1) (ws.map (·.wv)++[x.wv])) (k:(a.alloc s).grownBy w3 CY.ownBlock) (C:CY.ownBlock=σ g\/g=a.heap.size+1) :
 J2 W (w3.setCell ⟨bx,0,ν⟩ (ψ (σ ⟨g,0,ν⟩) (ws.length+1) cap)) bx cols rs (ψ (σ ⟨g,0,ν⟩) (ws.length+1) cap) (ws++[x]):=by
 have t:=n.trans (D.mono n.size);have A:δ a.heap.size a (a.alloc s):=(ah _ _).alloc (ae _) _;have o:=d.below (t.trans (A.mono t.size));have V:(a.alloc s).heap.size=a.heap.size+1:=by simp
 have E:∀j,j<W.heap.size->CY.ownBlock≠σ j:=λj D e=>by have:=(d.row.lt j e).1;omega
 have F:=d.keep.size;have K:w3.heap[bx]?=σ (ξ #[CY] 452 (0,0)):=(k.block bx (aw o.box) (λe=>E bx d.lb e.symm)).trans o.box;have U:W.heap.size<=g:=(by rcases C with e|e;{exact(d.row.lt g e).1};have:=t.size;omega);have H:∀b:Jl,ft b.lo b.a.heap.size b.a (a.alloc s)->W.heap.size<=b.lo->(∀f,CY.ownBlock=σ f->f<b.lo\/b.a.heap.size<=f)->ft b.lo b.a.heap.size b.a (w3.setCell ⟨bx,0,ν⟩ (ψ (σ ⟨g,0,ν⟩) (ws.length+1) cap)):=λb y X z=>
  ⟨ag y.1 (by simpa[World.setCell]using k.size),λf l1 l2=>(ay _ _ _ _ (show f≠bx by have:=d.lb;omega)).trans ((k.block f (ai l2 y.1) (λe=>by have:=z f e.symm;omega)).trans (y.2 f l1 l2))⟩
 refine⟨aN _ bx 0 _ _ _ K,?_,λG b q m v=>?_,λb c=>?_,λb c f i=>?_,λb c=>?_,?_,d.lb⟩;{rw[az,dY];exact dH M (grownBy_setCell _ ⟨bx,0,ν⟩ _) (λf i e=>by cases i;simp[Value.ownBlock]at e;have:=d.lb;omega)};{rw[iz]at m;split at m;{exact d.fs G b q m v};have P:G=ws.length:=(by have:=(aj.mp m).1;simp at this;omega);subst P;rw[da]at m;cases m;rw[Q]at v;cases v;exact O};{rcases bP.mp c with c|c;{exact⟨(d.wk b c).work,H b (o.wk b c).kept (d.lo b c) (d.off b c)⟩};rw[bj.mp c];refine⟨by rw[u,r];exact T,H x ⟨by rw[u];exact A.size,λf l1 l2=>by rw[u]at l2 ⊢;exact A.block f l2⟩ (by rw[r];exact ag F n.size) (λf i=>.inl ?_)⟩;rw[r];exact ai (d.row.lt f i).2 n.size}
 .simp[Value.ownBlock]at i;subst i;rcases bP.mp c with c|c
  {rcases C with e|e;{exact d.off b c g e};refine .inr ?_;have:=(d.wk b c).kept.1;have:=t.size;omega};rw[bj.mp c,u,r];rcases C with e|e;{exact .inl (ai (d.row.lt g e).2 n.size)};exact .inr (by omega)
 {rcases bP.mp c with c|c;{exact d.lo b c};rw[bj.mp c,r];exact ag F n.size};have z:aX (λj=>j<W.heap.size/\j≠bx) W w3:=o.keep.trans ⟨k.os,k.tape,k.output,k.size,λj i=>k.block j (ai i.1 o.keep.size) (λe=>E j i.1 e.symm)⟩;exact z.setCell (p:=⟨bx,0,ν⟩) (λi=>i.2 rfl) _
end
end
structure Em (W0 W:ω)(base:Nat)(cols nc:List br)(kv:υ)(bx:Nat)(CY:υ)(ws:List Jl)(cv:υ)(vs:List υ)(L:List (List aD)):Prop where
 low:δ W0.heap.size W0 W
 bo:W.heap[bx]?=σ (ξ #[kv,cv] 154 (0,0))
 bw:W.heap[bx+1]?=σ (ξ #[CY] 452 (0,0))
 own:gu W base cv vs L
 row:W.ownsRow base 141 1 CY ws.length (ws.map (·.wv))
 wk:∀x∈ws,ajP W (gI cols) x
 out:∀x∈ws,∀b,kd cv vs b->b<x.lo\/x.a.heap.size<=b
 lb:W0.heap.size<=base
 kr:W.ownsRow base 202 2 kv nc.length (nc.flatMap mP)
section
variable {W0 W W' w1 w2:ω} {base bx B:Nat} {cols nc:List br} {kv CY cv:υ} {ws:List Jl} {vs pZ:List υ} {L L':List (List aD)}
theorem Em.below(b:Em W0 W base cols nc kv bx CY ws cv vs L)(c:δ W.heap.size W W'):Em W0 W' base cols nc kv bx CY ws cv vs L:=
 ⟨SJ b.low c,vA c _ _ b.bo,vA c _ _ b.bw,b.own.below c,cq b.row c,λf d=>⟨(b.wk f d).work,(b.wk f d).kept.below c⟩,b.out,b.lb,cq b.kr c⟩
theorem Em.turn(b:Em W0 W base cols nc kv bx CY ws cv vs L)(d:nS B W W')(r:W0.heap.size<=B)(n:∀f∈ws,f.a.heap.size<=B):Em W0 W' base cols nc kv bx CY ws cv vs L:=by
 have j:∀c,c<B->c<W.heap.size->W'.heap[c]?=W.heap[c]?:=λc m o=>by
  have g:W.heap[c]?=σ W.heap[c]:=eu _;rw[g];exact d.eW c _ g (.inl m)
 exact⟨⟨d.os.trans b.low.os,d.tape.trans b.low.tape,d.output.trans b.low.output,ag b.low.size d.size,λc g=>(j c (by omega) (ai g b.low.size)).trans (b.low.block c g)⟩,d.eW _ _ b.bo (.inr rfl),d.eW _ _ b.bw (.inr rfl),b.own.turn d,oZ b.row d,λf i=>⟨(b.wk f i).work,ag (b.wk f i).kept.1 d.size,λk l1 l2=>(j k (by have:=n f i;omega) (ai l2 (b.wk f i).kept.1)).trans ((b.wk f i).kept.2 k l1 l2)⟩,b.out,b.lb,oZ b.kr d⟩
theorem Em.next(g:Em W0 W base cols nc kv bx CY ws cv vs L)(n:δ W.heap.size W w1)(c:ke w1 w2 base cv vs pZ L'):Em W0 w2 base cols nc kv bx CY ws cv pZ L'/\KeepsFrom B W w2:=by have b:=g.below n;refine⟨⟨b.low.trans (c.low b.own g.lb b.low.size),c.box b.own b.bo (by decide),c.box b.own b.bw (by decide),c.own,eJ b.row (λk i=>?_),λf d=>⟨(g.wk f d).work,ag (b.wk f d).kept.1 c.keep.size,λj l1 l2=>(c.old (ai l2 (b.wk f d).kept.1) (λr=>by have:=g.out f d j r;omega)).trans ((b.wk f d).kept.2 j l1 l2)⟩,λf d t r=>?_,g.lb,eJ b.kr (λk i=>?_)⟩,ag n.size c.keep.size,λj s v w x=>(c.keeps (B:=B) b.own).same j s v (vA n j s w) x⟩;{obtain⟨u,o⟩:=qk b.row i;exact c.old (b.row.lt k i).2 (b.own.FM o (by decide))};{rcases c.US r with m|m;{exact g.out f d t m};exact .inr (ag (b.wk f d).kept.1 m)};obtain⟨u,o⟩:=qk b.kr i;exact c.old (b.kr.lt k i).2 (b.own.FM o (by decide))
theorem Em.CZ(c:Em W0 W base cols nc kv bx CY ws cv vs L)(b:δ W.heap.size W w1)(g:ke w1 w2 base cv vs pZ L')(f:W.heap[m]?=σ (ξ v n (0,0)))(d:n≠230/\n≠229):w2.heap[m]?=σ (ξ v n (0,0)):=g.box (c.below b).own (vA b m _ f) d
end
theorem Xl{f g:Type}{b:f->Nat ⊕ g}{c B:List f}{a d:List g}(i:dG b c=.inr a)(j:dG b B=.inr d):dG b (c++B)=.inr (a++d):=by rw[om,i,j]
theorem abb{d f:Type}{b:d->Nat ⊕ f}{c B g:List d}{a:List f}{p:Nat}(i:dG b c=.inr a)(j:dG b B=.inl p):dG b (c++B++g)=.inl p:=by rw[om,om,i,j]
theorem Ij{g k:Type}{d f:g->Nat ⊕ k}:∀{c:List g},(∀b∈c,d b=f b)->dG d c=dG f c
 |[],_=>rfl
 |b::l,h=>by simp only[dG,h b (List.mem_cons_self ..),Ij (λj i=>h j (List.mem_cons_of_mem _ i))]
theorem Xm{r:Type}{b:List (List aD)}(d:List aD->Nat ⊕ r)(j:∀c∈b,c.length=m):dG (λc=>d (rowOf (bh m b) c)) (List.range b.length)=dG d b:=by have e:b=(List.range b.length).map (λc=>b.getD c []):=(by apply cB;intro n;rw[aV];by_cases i:n<b.length;{rw[eP i];simp[List.getD,List.getElem?_eq_getElem i]};rw[aZ (by omega),aZ (by simp;omega)];rfl);have g:=Ea d (λc=>b.getD c []) (List.range b.length);rw[<- e]at g;rw[g];refine Ij λo k=>?_;have f:=dB.mp k;rw[nW (row:=b[o]) (af f) (j _ (cF _))];simp[List.getD,List.getElem?_eq_getElem f]
section
open Go.Shelf
attribute [local go_sem] kq
set_option linter.unusedSimpArgs false
def abd(kv:υ)(n:Nat):FN:=⟨λv l h X=>∃g0 gc,v=χ #[kv,ψ (σ (Ad g0 0)) n gc]/\gu X l (ψ (σ (Ad g0 0)) n gc) (List.replicate n sL) (bh n [])/\∀b,kd (ψ (σ (Ad g0 0)) n gc) (List.replicate n sL) b->b<h,λ_ _ _ _ _ ⟨g0,gc,h1,h2,h3⟩ hb=>⟨g0,gc,h1,h2.below hb,h3⟩⟩
def abe(cols:List br)(e:Ex):FN:=⟨λv l h X=>∃p wv a lo,v=π (σ (Ad p 0))/\X.heap[p]?=σ (BL wv (0,0,0))/\dJ a lo wv (gI cols) (λrow=>cU cols row e)/\ft lo a.heap.size a X/\(l<=p/\p<h)/\(l<=lo/\a.heap.size<=h)/\(p<lo\/a.heap.size<=p),λ_ _ _ _ _ ⟨p,wv,a,lo,h1,h2,h3,h4,h5⟩ hb=>⟨p,wv,a,lo,h1,vA hb _ _ h2,h3,h4.below hb,h5⟩⟩
theorem MD{vs:List υ}{L:List (List aD)}(d:gu w m x vs L)(j:∀s,kd x vs s->¬i s):ik i w x L:=by
 refine⟨λa v g b f=>?_,vs,bu.eY d.row,λc g k=>?_⟩;{rcases d.row.2 with⟨e,-⟩|⟨u,t,cur,e,-⟩;{rw[b]at e;cases e};rw[b]at e;cases e;exact j _ (.inl (by rw[b];rfl)) f}
 have n:c<vs.length:=by rw[d.each.len];exact(aj.mp k).1
 have r:vs[c]?=σ vs[c]:=af n;have o:=d.each.own c _ g r k;refine⟨vs[c],r,bu.eY o,λa v y b f=>?_⟩;rcases o.2 with⟨e,-⟩|⟨u,t,cur,e,-⟩
 {rw[b]at e;cases e};rw[b]at e;cases e;exact j _ (.inr ⟨vs[c],cF n,by rw[b];rfl⟩) f
def nN(M:Nat->Prop)(w:ω)(v:υ)(cols:List br):Prop:=∀W:ω,w.heap.size<=W.heap.size->(∀b,b<w.heap.size->¬M b->W.heap[b]?=w.heap[b]?)->ew W v cols
theorem C4{vs:List υ}{L:List (List aD)}(c:gu w m x vs L)(d:∀b,i b->b<m):iU i w x L:=iU.of (MD c (λb f g=>by have:=(c.inside f).1;have:=d b g;omega))
theorem En{cols:List br}(c:w.ownsRow m 202 2 x cols.length (cols.flatMap mP))(g:∀f,i f->f<m):nN i w x cols:=λ_ _ j=>bu.eY (eJ c (λb d=>j b (c.lt b d).2 (λk=>by have:=(c.lt b d).1;have:=g b k;omega)))
theorem gu.moved{Z:ω}{base:Nat}{cv:υ}{vs:List υ}{L:List (List aD)}(b:gu w base cv vs L)(i:∀d,base<=d->Z.heap[d]?=w.heap[d]?):gu Z base cv vs L:=
 ⟨eJ b.row (λc f=>i c (b.row.lt c f).1),⟨b.each.len,λm n j g k=>eJ (b.each.own m n j g k) (λc f=>i c (b.each.lt g f).1),b.each.apart⟩,b.off⟩
theorem sQ{B:Nat}{a Z:ω}(b:δ m a w)(d:nS B w Z)(j:m<=B)(g:m<=a.heap.size):δ m a Z:=
 ⟨d.os.trans b.os,d.tape.trans b.tape,d.output.trans b.output,ag b.size d.size,λc f=>by
  have i:c<w.heap.size:=ai f (ag g b.size);have e:w.heap[c]?=σ w.heap[c]:=eu i;rw[<- b.block c f,e];exact d.eW c _ e (.inl (by omega))⟩
theorem abf{W0:ω}{cols:List br}{e:Ex}{kv:υ}{b8 b9 p l2 b lo:Nat}{wv cv:υ}{a:ω}{vs:List υ}(v:δ W0.heap.size W0 w)(o:gu w l2 cv vs (bh cols.length []))(x:∀c,kd cv vs c->c<m)(D:W0.heap.size<=l2)(A:w.heap[p]?=σ (BL wv (0,0,0)))(C:dJ a lo wv (gI cols) (λrow=>cU cols row e))(y:ft lo a.heap.size a w)(O:k<=p/\p<b)(M:k<=lo/\a.heap.size<=b)(s:p<lo\/a.heap.size<=p)(d:w.heap[b8]?=σ (wG ν 0 0 ν 0 0))(g:w.heap[b9]?=σ (ξ #[π ν] 216 (0,0)))(j:W0.heap.size<=b8)(z:W0.heap.size<=b9)(K:W0.heap.size<=k)(E:m<=k\/b<=l2)(F:b<=b8\/b8+1<=k)(G:b<=b9\/b9+1<=k) :
 zh W0 (((w.setCell (Ad b8 0) kv).setCell (Ad b8 1) cv).setCell (Ad b9 0) (π (σ (Ad p 0)))) cols e kv [] [] (0,0,0) b8 b9 p cv vs wv a lo:=by
 have i:b9≠b8:=λf=>by subst f;rw[d]at g;cases g
 have t:=sP (x:=kv) (y:=cv) d;have u:Bun W0 w cols p cv vs wv a lo:=⟨v,o.lower D,A,y⟩;have n:((w.setCell (Ad b8 0) kv).setCell (Ad b8 1) cv).heap[b9]?=σ (ξ #[π ν] 216 (0,0)):=(ay _ _ _ _ i).trans ((ay _ _ _ _ i).trans g);refine ajR (((u.set d (.inl rfl) ⟨j,by omega⟩).set (aN _ b8 0 _ _ _ d) (.inl rfl) ⟨j,by omega⟩).set n (.inr rfl) ⟨z,by omega⟩) ((ay _ _ _ _ (λf=>i f.symm)).trans t) (one_set n) (λc r=>?_) C s (by omega);have H:=x c r;have I:=(o.inside r).1;omega
theorem Xn{c:ω}{cols:List br}{kv bv:υ}{e:Ex}{E S:Nat}{R:List (List aD)}(Cv:pz e)(hk:cH cols e=.inl 2)(t:ew c kv cols)(X:0<cols.length)(h5:cols.length<=1000)(n:eC c bv (bh cols.length R))(hR:R.length<=64)(mQ:∀m∈R,gI cols m)(hS:0<S)(Az:S<=64) :
 Calls prog 310 #[χ #[ι κ E,oL e],χ #[kv,bv],ι κ S] c λm w'=>∃a al H k,m=τ (.tuple #[χ #[kv,ψ a al H],χ #[ι κ k.2.1,ι κ k.2.2]])/\δ c.heap.size c w'/\∃R',vT (λrow=>cU cols row e) R R' k/\∀av:Nat->Prop,(∀D,av D->D<c.heap.size)->iU av w' (ψ a al H) (bh cols.length R'):=by
 obtain⟨U,x9,-⟩:=pb e;obtain⟨i,g,rfl⟩:=t.slice;obtain⟨u,w,rfl⟩:=n.slice;rw[bB]at n ⊢;obtain⟨W0,zV⟩:=nm ((((c.alloc (obL E (.iface U (qG e)))).alloc (wG i cols.length g u cols.length w)).alloc (wG ν 0 0 ν 0 0)).alloc (gY 0 0));have C:=fX c (obL E (.iface U (qG e))) (wG i cols.length g u cols.length w);have r:=fX ((c.alloc (obL E (.iface U (qG e)))).alloc (wG i cols.length g u cols.length w)) (wG ν 0 0 ν 0 0) (gY 0 0);have Y:((c.alloc (obL E (.iface U (qG e)))).alloc (wG i cols.length g u cols.length w)).heap.size=c.heap.size+2:=by simp
 rw[Y,<- zV]at r;have yZ:W0.heap.size=c.heap.size+4:=by rw[zV];simp
 have ia:δ c.heap.size c W0:=C.1.trans (r.1.mono (by omega));have pD:=ak (λwr (b:δ W0.heap.size W0 wr)=>(show((wr.cell? ⟨c.heap.size,0,ν⟩=σ (ι κ E)/\wr.cell? ⟨c.heap.size,1,ν⟩=σ (.iface U (qG e)))/\(wr.cell? ⟨c.heap.size+1,0,ν⟩=σ (ψ i cols.length g)/\wr.cell? ⟨c.heap.size+1,1,ν⟩=σ (ψ u cols.length w))/\(wr.heap[c.heap.size+2]?=σ (wG ν 0 0 ν 0 0)/\wr.heap[c.heap.size+3]?=σ (gY 0 0)))/\δ c.heap.size c wr from by
  have e0:W0.heap[c.heap.size]?=σ (obL E (.iface U (qG e))):=(r.1.block _ (by omega)).trans C.2.2;have e1:W0.heap[c.heap.size+1]?=σ (wG i cols.length g u cols.length w):=(r.1.block _ (by omega)).trans C.2.1;exact⟨⟨aR ((b.block _ (by omega)).trans e0),aR ((b.block _ (by omega)).trans e1),(b.block _ (by omega)).trans r.2.2,(b.block _ (by omega)).trans r.2.1⟩,ia.trans (b.mono ia.size)⟩))
 have QH:=ak (λd (b:δ W0.heap.size W0 d)=>KT (w:=d) (pl:=E) Cv hk (t.below (pD.J d b).2 (ae _)) h5);rw[x9]at QH ⊢;have HB:=ak n;have bb:=ak mQ;have Qw:=ak zV;have Q:=aH (ah W0.heap.size W0);have HD:=ak Q;obtain⟨⟨⟨a0,a1⟩,⟨a2,a3⟩,-⟩,-⟩:=pD.J W0.drew Q;have x:W0.drew.cell? ⟨c.heap.size,0,ν⟩=σ (ι κ E)/\W0.drew.cell? ⟨c.heap.size,1,ν⟩=σ (.iface U (qG e))/\W0.drew.cell? ⟨c.heap.size+1,0,ν⟩=σ (ψ i cols.length g):=⟨a0,a1,a2⟩;have b3:c.heap.size+3<W0.heap.size:=by omega
 refine uG func310 rfl ?_;simp only[ntmps310,List.size_toArray,List.length_cons,List.length_nil,Nat.reduceAdd,Nat.reduceSub,Array.replicate_succ,Array.replicate_zero,List.push_toArray,List.append_toArray,List.nil_append,List.cons_append];go_wp2_with fail;rw[<- Qw.J];have DR:prog.follows .mixedOrders=true:=by kernel_rfl
 refine q6 (n:=9) (m:=2) (z:=37) [.is (π (σ ⟨c.heap.size+1,0,ν⟩)),.is (ψ i cols.length g),abd (ψ i cols.length g) cols.length,.is (χ #[ι κ E,.iface U (qG e)]),.is (π (σ ⟨c.heap.size+1,0,ν⟩)),.is (ψ i cols.length g),abe cols e,.box #[ψ ν 0 0,ψ ν 0 0] 154,.box #[π ν] 216] DR rfl (by kernel_rfl) ⟨⟨⟨⟨⟨⟨⟨⟨⟨trivial,?_⟩,?_⟩,?s2⟩,?_⟩,?_⟩,?_⟩,?s6⟩,?s7⟩,?s8⟩ ?fin;(case s2=>refineλV lo hi d n ⟨hf,(e1:V (.tmp 12)=_),_⟩=>eT rfl hf call123 (by simp[e1]) (xo (a:=i) (cap:=g) h5) ?_;rintro m w1 ⟨b4,rfl,JW,cx⟩;have eH:=JW.row;rw[bB]at eH;obtain⟨ca,z,rfl,Xh,-⟩:=cu eH;obtain⟨y,rfl,-⟩:=Xh X;exact⟨_,rfl,⟨y,z,rfl,JW,λD n=>(JW.inside n).2⟩,cx⟩);(case s6=>refineλV lo hi d n ⟨hf,(e1:V (.tmp 14)=_),(e2:V (.tmp 16)=_),_⟩=>eT rfl hf call122 (by simp[e1,e2]) (QH.J d (HD.J.trans n)) ?_;rintro m w2 ⟨p,wv,a,lo,rfl,F⟩;exact⟨_,rfl,⟨p,wv,a,lo,rfl,F.eW,F.work,F.kept,⟨F.new,aw F.eW⟩,⟨F.low,F.kept.1⟩,F.off⟩,F.sX⟩);case s7=>exactλV lo hi d n _=>fj (v:=π (σ ⟨d.heap.size,0,ν⟩)) (w':=d.alloc _) (by go_simp) ⟨⟨by simp,rfl,au d _⟩,ld d _⟩
 case s8=>exactλV lo hi d n _=>fj (v:=π (σ ⟨d.heap.size,0,ν⟩)) (w':=d.alloc _) (by go_simp) ⟨⟨by simp,rfl,au d _⟩,ld d _⟩
 case fin=>
  intro val lo hi d n A CQ;obtain⟨⟨y,z,v2,own,Y3⟩,yo,-,-⟩:=A 2 (by decide);obtain⟨⟨p,wv,a,a4,v6,hp,FR,Nj,vz,nR,Hs⟩,bm,-,-⟩:=A 6 (by decide);obtain⟨⟨h7,v7,aa⟩,SL,-,-⟩:=A 7 (by decide);obtain⟨⟨h8,v8,ab⟩,QG,-,-⟩:=A 8 (by decide);have ar:=ak (abf (e:=e) (kv:=ψ i cols.length g) n own Y3 yo hp FR Nj vz nR Hs aa ab SL QG bm (CQ 2 6 (by decide) (by decide) (by decide)) (by have:=CQ 6 7 (by decide) (by decide) (by decide);omega) (by have:=CQ 6 8 (by decide) (by decide) (by decide);omega));generalize lo 7=b8 at *;generalize lo 8=b9 at *;have cd:b9≠b8:=λb=>by subst b;rw[aa]at ab;cases ab
  have x0:=aR aa;have x1:=cell0 ab 0;have z0:=eR aa 0;have z1:=eR aa 1;have z2:=eR ab 0;have l8:=aw aa;have l9:=aw ab;obtain⟨ce,cf⟩:=x0;simp only[List.getElem?_toArray,List.getElem?_cons_zero]at x1;simp[mY,gO,Act.put,v2,v6,v7,v8];refine nu (i:=9) (by kernel_rfl) rfl (by rfl) ?_;unfold iR;go_simp;refine nu (i:=10) (by kernel_rfl) rfl (by rfl) ?_;unfold iR;go_simp;refine qo (by kernel_rfl) ?_ _;generalize ((d.setCell _ _).setCell _ _).setCell _ _=W1 at ar ⊢;have lM:=ar.J.low;obtain⟨⟨-,⟨x2,x3⟩,-⟩,QE⟩:=pD.J W1 lM;go_wp2_with(go_at_call 125;refine(xl _ _ _ _ _).mono ?_;rintro m w' ⟨rfl,cb⟩);obtain⟨W2,qM⟩:=nm ((W1.alloc (ξ #[ψ u cols.length w] 152)).alloc (ξ #[ι κ S] 3));obtain⟨Y5,GM,Fu⟩:=fX W1 (ξ #[ψ u cols.length w] 152) (ξ #[ι κ S] 3);rw[<- qM]at Y5 GM Fu ⊢;have bi:zh W0 W2 cols e (ψ i cols.length g) (R.take 0) [] (0,0,0) b8 b9 p (ψ (σ ⟨y,0,ν⟩) cols.length z) (List.replicate cols.length sL) wv a a4:=by rw[lh];exact ar.J.below Y5
  have a6:Hid (FK W2 W1.heap.size (ψ u cols.length w) S):=ak ⟨Fu,GM⟩;have ap:=ak bi;have Np:Hid (W0.heap.size<=W1.heap.size/\W1.heap.size<=W2.heap.size):=ak ⟨lM.size,Y5.size⟩;have Sl:Hid (∀wr,δ W0.heap.size W0 wr->eC wr (ψ u cols.length w) (bh cols.length R)):=ak λwr b=>HB.J.below (pD.J wr b).2 (ae _);refine wC (n:=9).1 (Gf (a1:=?a1) (by decide) rfl call155 (CN (q:=W1.heap.size) (q2:=W1.heap.size+1) (S:=S) (N:=R.length) (bv:=ψ u cols.length w) (L:=bh cols.length R) hS Az (λH t=>ep t) hR (by intro b;have:=bB cols.length R;rw[b]at this;simp at this;omega) (by rw[bB];exact h5))
   (λo G=>∃R' k vs,zh W0 G cols e (ψ i cols.length g) (R.take o) R' k b8 b9 p (ψ (σ ⟨y,0,ν⟩) cols.length z) vs wv a a4/\FK G W1.heap.size (ψ u cols.length w) S/\R'.length<=o) (λ_ _=>False)
   (λo G b=>by obtain⟨_,_,_,C,r,_⟩:=b;exact⟨cell0 r.1 0,cell0 r.2 0,Sl.J G C.low⟩) ?hI (λ_ _ _ b _=>b) (λo an bS a5 B b am=>b.turn am) ⟨_,_,_,ap.J,a6.J,ae _⟩ ?assign ?body ?done (λ_ _ _ _ b=>b.elim))
  (case hI=>rintro o a5 B ⟨R',k,vs,C,r,h3⟩ am;exact⟨R',k,vs,C.turn am (ag Np.J.1 Np.J.2) ap.J.kept.1,⟨am.eW _ _ r.1 (.inr rfl),am.eW _ _ r.2 (.inr rfl)⟩,h3⟩);(case assign=>intro l an G b1 hK;gi_wp2;exact hK);(case done=>rintro ao o Wd Q D7 ⟨R',k,vs,s,-,-⟩ BG;rw[aI D7]at s;have s:=s.below (aH (ah Wd.heap.size Wd));have BG:Wd.drew.heap[ao]?=_:=BG;go_wp2_with fail;refine rP (S:=λd=>(d.cell? ⟨b8,0,ν⟩=σ (ψ i cols.length g)/\d.cell? ⟨b8,1,ν⟩=σ (ψ (σ ⟨y,0,ν⟩) cols.length z))/\d.cell? ⟨b9,0,ν⟩=σ (π (σ ⟨p,0,ν⟩))/\d.cell? ⟨p,2,ν⟩=σ (ι κ k.2.1)/\d.cell? ⟨p,3,ν⟩=σ (ι κ k.2.2)) DR ?_;generalize Wd.drew=d at *;obtain⟨u0,u1⟩:=aR s.bo;have u2:=cell0 s.bs 0;simp only[List.getElem?_toArray,List.getElem?_cons_zero]at u2;obtain⟨-,-,u3,u4⟩:=eo s.sv;have x:=And.intro (And.intro u0 u1) (And.intro u2 (And.intro u3 u4));obtain⟨⟨-,-,r6,r7⟩,QE⟩:=pD.J d s.low;have n8:(b8≠c.heap.size+1+1/\b8≠c.heap.size+1+1+1)/\(b9≠c.heap.size+1+1/\b9≠c.heap.size+1+1+1)/\(p≠c.heap.size+1+1/\p≠c.heap.size+1+1+1):=(by have:=s.hp;omega);have HL:=ak (λf bw bt an=>aa9 (B:=c.heap.size) (rb:=c.heap.size+1+1) (rc:=c.heap.size+1+1+1) (x:=f) (y:=bw) (u:=bt) (v:=an) r6 r7 (by omega) (by omega) (by omega));have bc:=ak s.own;have a9:=ak QE;have aq:=ak s.is;have a8:=ak BG;have Oi:Hid (c.heap.size+4<=ao):=ak (by have:=Np.J;omega);have f0:d.cell? ⟨c.heap.size+1+1,0,ν⟩=_:=(aR r6).1;have f1:d.cell? ⟨c.heap.size+1+1,1,ν⟩=_:=(aR r6).2;have f2:d.cell? ⟨c.heap.size+1+1+1,0,ν⟩=_:=(aR r7).1;have f3:d.cell? ⟨c.heap.size+1+1+1,1,ν⟩=_:=(aR r7).2;have z0:d.frozen? ⟨c.heap.size+1+1,0,ν⟩=false:=eR r6 0;have z1:d.frozen? ⟨c.heap.size+1+1,1,ν⟩=false:=eR r6 1;have z2:d.frozen? ⟨c.heap.size+1+1+1,0,ν⟩=false:=eR r7 0;have z3:d.frozen? ⟨c.heap.size+1+1+1,1,ν⟩=false:=eR r7 1;refine kT (i:=0) rfl (by kernel_rfl) (λ_ _ _ b=>b) (by rintro O ⟨⟨I,K⟩,M,g4,g5⟩;go_simp;with_reducible rfl) x ?_;refine kT (i:=1) rfl (by kernel_rfl) (λ_ _ _ b=>b) (by rintro O ⟨⟨I,K⟩,M,g4,g5⟩;go_simp;with_reducible rfl) x ?_;refine kT (i:=2) rfl (by kernel_rfl) (λ_ _ _ b=>b) (by rintro O ⟨⟨I,K⟩,M,g4,g5⟩;go_simp;with_reducible rfl) x ?_;refine kT (i:=3) rfl (by kernel_rfl) (λ_ _ _ b=>b) (by rintro O ⟨⟨I,K⟩,M,g4,g5⟩;go_simp;with_reducible rfl) x ?_;refine kT (i:=4) rfl (by kernel_rfl) (λ_ _ _ b=>b) (by rintro O ⟨⟨I,K⟩,M,g4,g5⟩;go_simp;with_reducible rfl) x ?_;refine qO (i:=5) (by kernel_rfl) rfl (by rfl) ?_;unfold iR;simp only[Act.put];go_simp;refine qO (i:=6) (by kernel_rfl) rfl (by rfl) ?_;unfold iR;go_simp;refine wpAnyH_done (by kernel_rfl) ?_ _;have HZ:=ak (HL.J (ψ i cols.length g) (ψ (σ ⟨y,0,ν⟩) cols.length z) (ι κ k.2.1) (ι κ k.2.2));generalize (((d.setCell _ _).setCell _ _).setCell _ _).setCell _ _=Z at HZ ⊢;go_wp2_with fail;have Y:=HZ.J;have bl:=Oi.J;refine rQ (B:=c.heap.size+4) (.one bl ((Y.rest ao (by omega) (by omega)).trans a8.J)) λw' T=>?_;obtain⟨q0,q1⟩:=aR (T.eW _ _ Y.b1 (.inr rfl));obtain⟨q2,q3⟩:=aR (T.eW _ _ Y.b2 (.inr rfl));refine⟨.tuple #[χ #[ψ i cols.length g,ψ (σ ⟨y,0,ν⟩) cols.length z],χ #[ι κ k.2.1,ι κ k.2.2]],by simp[results,results310,go_sem,q0,q1,q2,q3],_,_,_,k,rfl,sQ (Y.low c a9.J) T (by omega) (ae _),R',aq.J,λav hM=>C4 ((bc.J.moved (λD n=>Y.rest D (by omega) (by omega))).turn T) (λo hk=>by have:=hM o hk;omega)⟩);case body=>
   rintro l o an Wp Wr ⟨R',k,vs,AA,aC,b5⟩ T D7 OC;obtain⟨al,hm⟩:=nm (min (o+S) R.length);rw[<- hm,tM]at OC;obtain⟨j,uH⟩:=nm ((R.drop o).take (al - o));rw[<- uH]at OC;have O5:j.length=al - o:=(by rw[uH,bV,bW];omega);have FG:0<j.length:=(by omega);have be:j.length<=64:=(by omega);have hM:∀f,kd (ψ (σ ⟨y,0,ν⟩) cols.length z) vs f\/f=p->W0.heap.size<=f/\f<Wp.heap.size:=λf v=>by
    rcases v with b|rfl
    . exact AA.own.inside b
    . exact⟨AA.hp,aw AA.sv⟩
   have A:=OC (λf=>kd (ψ (σ ⟨y,0,ν⟩) cols.length z) vs f\/f=p) (λf v=>(hM f v).2) (HB.J.away (by rw[bB];exact X) (λH t=>by rw[ep t];omega) (pD.J Wp AA.low).2 (λf v=>by have:=(hM f v).1;omega));have s:=AA.turn T (ag Np.J.1 Np.J.2) ap.J.kept.1;have hP:FK Wr W1.heap.size (ψ u cols.length w) S:=⟨T.eW _ _ aC.1 (.inr rfl),T.eW _ _ aC.2 (.inr rfl)⟩;obtain⟨va,dq,he⟩:=A.batch.slice;rw[bB]at he;subst he;have BI:Hid (∀m∈j,gI cols m):=ak λm hr=>bb.J m (by rw[uH]at hr;exact iy (eG hr));have Ik:=s.is.fit (n:=64) (by rw[bV];omega);have Q:=aH (ah Wr.heap.size Wr);have P:=s.below Q;obtain⟨u0,u1⟩:=aR P.bo;have u2:=cell0 P.bs 0;simp only[List.getElem?_toArray,List.getElem?_cons_zero]at u2;have QG:=aw P.bo;have b7:=aw P.bs;have Ca:=ak (rO (A.batch.below Q (ae _)) (gA (R:=j) X));rw[aQ]at Ca;have bd:=ak (CM j.length (by omega) Wr.drew);have LM:=ak (λ(w1:ω) (b:δ Wr.drew.heap.size Wr.drew w1) rv (Dv:gw w1 rv (List.range j.length))=>OJ (P.below b).work (P.below b).kept (λrow hr H t=>pR hr e Cv hk t) (P.below b).sv (A.batch.below (Q.trans b) (ae _)) Dv (λf v H t=>by rw[ep t];exact dB.mp v) (by rw[cV];exact be) (λf v=>by rw[nW (n:=cols.length) (row:=j[f]'(dB.mp v)) (af _) (BI.J _ (cF _)).1];exact BI.J _ (cF _)) (λX=>⟨by have:=(Ik X).1;omega,(Ik X).2⟩));obtain⟨Kd,ax⟩:=nm (kZ (λm=>cU cols (rowOf (bh cols.length j) m) e) (List.range j.length) k);rw[<- ax]at LM;have yl:Hid ((∀f∈Kd.1,f<j.length)/\Kd.1.length<=j.length):=ak (by rw[ax];exact⟨λf v=>dB.mp (El.1 f v),by simpa using(El (F:=λm=>cU cols (rowOf (bh cols.length j) m) e) (A:=List.range j.length) (s:=k)).2⟩);have aq:Hid (vT (λrow=>cU cols row e) (R.take (o+S)) (R'++Kd.1.map λm=>j.getD m []) Kd.2):=ak (by
    have h9:=s.is.keep j;rw[Xk (n:=cols.length) _ k (λm hr=>(BI.J m hr).1),<- ax]at h9;have e9:R.take (o+S)=R.take o++j:=by
     rw[vy,uH,hm];congr 1;by_cases r:o+S<=R.length
     . rw[fA r,mJ]
     . rw[mH (by omega),aI (by rw[bW];omega),aI (by rw[bW];exact ae _)]
    rw[e9];exact h9)
   have b6:j.length<=S:=(by omega);have RG:=ak s;have HV:=ak A;have HP:=ak hP;have Oi:=ak Q;have bg:=ak P;have bY:=ak uH;have b0:=ak hm;have b2:=ak O5;have DR:prog.follows .mixedOrders=true:=(by kernel_rfl)
   gi_wp2;refine sN (m:=9) (ls:=#[false,false,false,false,false,false,false,false,false]) DR (by kernel_rfl) (λ⟨_,_,b⟩=>b) rfl rfl ?_;have x:Wr.drew.cell? ⟨b8,0,ν⟩=σ (ψ i cols.length g)/\Wr.drew.cell? ⟨b8,1,ν⟩=σ (ψ (σ ⟨y,0,ν⟩) cols.length z)/\Wr.drew.cell? ⟨b9,0,ν⟩=σ (π (σ ⟨p,0,ν⟩)):=⟨u0,u1,u2⟩;refine wpAny_of_held (S:=λG=>G.cell? ⟨b8,0,ν⟩=σ (ψ i cols.length g)/\G.cell? ⟨b8,1,ν⟩=σ (ψ (σ ⟨y,0,ν⟩) cols.length z)/\G.cell? ⟨b9,0,ν⟩=σ (π (σ ⟨p,0,ν⟩))) _ _ _ _ ?_;refine kT (i:=0) rfl (by kernel_rfl) (λ_ _ _ b=>b) (by rintro O ⟨I,K,M⟩;go_simp;with_reducible rfl) x ?_;refine kT (i:=1) rfl (by kernel_rfl) (λ_ _ _ b=>b) (by rintro O ⟨I,K,M⟩;go_simp;with_reducible rfl) x ?_;refine kT (i:=2) rfl (by kernel_rfl) (λ_ _ _ b=>b) (by rintro O ⟨I,K,M⟩;go_simp;with_reducible rfl) x ?_;refine kT (i:=3) rfl (by kernel_rfl) (λ_ _ _ b=>b) (by rintro O ⟨I,K,M⟩;go_simp;with_reducible rfl) x ?_;refine kT (i:=4) rfl (by kernel_rfl) (λ_ _ _ b=>b) (by rintro O ⟨I,K,M⟩;go_simp;with_reducible rfl) x ?_;refine qO (i:=5) (by kernel_rfl) rfl (by rfl) (eT rfl rfl call94 (args:=#[ψ va cols.length dq]) (by simp[Act.eval,Act.put]) Ca.J ?_);rintro _ w' ⟨rfl,rfl⟩;refine⟨_,rfl,x,?_⟩;refine qO (i:=6) (by kernel_rfl) rfl (by rfl) (eT rfl rfl call119 (args:=#[ι κ j.length]) (by simp[Act.eval,Act.put]) bd.J ?_);rintro _ w1 ⟨rv,rfl,Dv,cx⟩;have QB:=bg.J.below cx;refine⟨_,rfl,⟨(aR QB.bo).1,(aR QB.bo).2,cell0 QB.bs 0⟩,?_⟩;refine qO (i:=7) (by kernel_rfl) rfl (by rfl) (eT rfl rfl call128 (args:=#[π (σ ⟨p,0,ν⟩),ψ va cols.length dq,rv]) (by simp[Act.eval,Act.put]) (LM.J w1 cx rv (by unfold gw;rw[cV];exact bu.eY Dv)) ?_);rintro _ w2 ⟨v2,rfl,nU,Au,np⟩;have ac:=QB.SK Au np;refine⟨_,rfl,⟨(aR ac.1).1,(aR ac.1).2,cell0 ac.2.1 0⟩,?_⟩;have yj:=Oi.J.trans cx;have bo:=(HV.J.moves yj.size (λD C _=>yj.block D C)).moves (w':=w2) np.size (λD C r=>np.block D ⟨C,λe=>r (.inr e)⟩);refine qO (i:=8) (by kernel_rfl) rfl (by rfl) (eT rfl rfl call129 (args:=#[χ #[ψ i cols.length g,ψ (σ ⟨y,0,ν⟩) cols.length z],ψ va cols.length dq,v2]) (by simp[Act.eval,Act.put]) (E5 (rows:=Kd.1) ac.2.2.1 (bB _ _) (bB _ _) X h5 (bo.sub (λD n=>.inl n)) (bu.eY nU) (λad cc H A hm=>by
    rcases nU.2 with⟨e,-⟩|⟨q,cp,cur,e,hq,-⟩
    . rw[A]at e;cases e
    . rw[A]at e
      cases e
      have:=(QB.own.inside hm).2;simp at this;omega) (λf v H t=>by rw[ep t];exact yl.J.1 f v) (λH t=>by rw[ep t];have:=yl.J.2;omega) (by have:=yl.J.2;omega) ac.2.2.2.1.size ⟨_,_,_,rfl⟩) ?_)
   rintro _ w3 ⟨rfl,pZ,lZ⟩;have n3:=RG.J.CZ yj Au np lZ HP.J.1 (by decide);have n4:=RG.J.CZ yj Au np lZ HP.J.2 (by decide);rw[Ie yl.J.1,uF]at lZ;obtain⟨n1,n2⟩:=RG.J.next (B:=W2.heap.size) yj Au np lZ aq.J;refine⟨_,rfl,⟨(aR n1.bo).1,(aR n1.bo).2,cell0 n1.bs 0⟩,wpAnyH_done (by kernel_rfl) ?_ _⟩;exact⟨n2,_,_,_,n1,⟨n3,n4⟩,by rw[az,aQ];have:=yl.J.2;omega⟩
 all_goals refineλV lo hi d n ⟨(e1:V _=_),_⟩=>fj (w':=d) ?_ ⟨rfl,ah _ _⟩;obtain⟨⟨⟨x0,x1⟩,⟨x2,x3⟩,-⟩,-⟩:=pD.J d (HD.J.trans n);go_simp
attribute [local go_sem] kq
set_option linter.unusedSimpArgs false
def oN(cols:List br)(rs:List A8)(row:List aD):Nat ⊕ List aD:=dG (λr:A8=>qN (cU cols row r.2.1)) rs
def afu(w w':ω)(cols:List br)(rs:List A8)(nc:List br)(R:List (List aD))(r:Ending):Prop:=
 ∃kv a m c q1 q2,r=τ (.tuple #[χ #[kv,ψ a m c],χ #[ι κ q1,ι κ q2]])/\δ w.heap.size w w'/\(∃ka kc,kv=ψ ka nc.length kc)/\(∀p,dG (oN cols rs) R=.inl p->q1=9/\q2=(p:Int))/\(∀R',dG (oN cols rs) R=.inr R'->q1=0/\q2=0)/\∀M:Nat->Prop,(∀b,M b->b<w.heap.size)->nN M w' kv nc/\(∃L,L.length=nc.length/\iU M w' (ψ a m c) L)/\∀R',dG (oN cols rs) R=.inr R'->iU M w' (ψ a m c) (bh nc.length R')
theorem U1{cols:List br}:∀{ws:List Jl} {rs:List A8},ws.length=rs.length->(∀(b:Nat) (d:Jl) (c:A8),ws[b]?=σ d->rs[b]?=σ c->d.F=λrow=>cU cols row c.2.1)->xu ws=oN cols rs
 |[],[],_,_=>rfl
 |d::ws,c::rs,hl,h=>by
   have j:=U1 (ws:=ws) (rs:=rs) (by simpa using hl) (λb k q g i=>h (b+1) k q g i)
   funext row;have e:=h 0 d c rfl rfl;have f:=congrFun j row;unfold xu oN at f ⊢;simp only[dG,e,f]
theorem gu.same{Z:ω}{base:Nat}{cv:υ}{vs:List υ}{L:List (List aD)}(b:gu w base cv vs L)(i:∀c,kd cv vs c->Z.heap[c]?=w.heap[c]?):gu Z base cv vs L:=
 ⟨eJ b.row (λd f=>i d (.inl f)),⟨b.each.len,λn j k g m=>eJ (b.each.own n j k g m) (λd f=>i d (.inr ⟨j,aA g,f⟩)),b.each.apart⟩,b.off⟩
theorem SM{b:ω}{cols:List br}{kv bv rv:υ}{rs:List A8}{S:Nat}{R:List (List aD)}{nc:List br}(hc:ew b kv cols)(h0:0<cols.length)(h5:cols.length<=1000)(U:bu b 4 rv rs.length (rs.flatMap Sv))(Cv:∀f∈rs,pz f.2.1)(bt:0<rs.length)(D4:rs.length<=1000)(hm:fU cols rs []=.inr nc)(m:eC b bv (bh cols.length R))(hR:R.length<=64)(mQ:∀f∈R,gI cols f)(hS:0<S)(Az:S<=64) :
 Calls prog 312 #[χ #[rv],χ #[kv,bv],ι κ S] b λf w'=>afu b w' cols rs nc R f:=by
 obtain⟨V,Q,rfl⟩:=hc.slice;obtain⟨A,E,rfl⟩:=m.slice;obtain⟨ra,rK,rfl⟩:=bu.slice U;rw[bB]at m ⊢;obtain⟨W0,zV⟩:=nm ((((b.alloc (ξ #[ψ ra rs.length rK] 291)).alloc (wG V cols.length Q A cols.length E)).alloc (wG ν 0 0 ν 0 0)).alloc (gY 0 0));have k:=fX b (ξ #[ψ ra rs.length rK] 291) (wG V cols.length Q A cols.length E);have j:=fX ((b.alloc (ξ #[ψ ra rs.length rK] 291)).alloc (wG V cols.length Q A cols.length E)) (wG ν 0 0 ν 0 0) (gY 0 0);have r:((b.alloc (ξ #[ψ ra rs.length rK] 291)).alloc (wG V cols.length Q A cols.length E)).heap.size=b.heap.size+2:=by simp
 rw[r,<- zV]at j;have yZ:W0.heap.size=b.heap.size+4:=by rw[zV];simp
 have ia:δ b.heap.size b W0:=k.1.trans (j.1.mono (by omega));have pD:=ak (λwr (c:δ W0.heap.size W0 wr)=>(show((wr.cell? ⟨b.heap.size,0,ν⟩=σ (ψ ra rs.length rK))/\(wr.cell? ⟨b.heap.size+1,0,ν⟩=σ (ψ V cols.length Q)/\wr.cell? ⟨b.heap.size+1,1,ν⟩=σ (ψ A cols.length E))/\(wr.heap[b.heap.size+2]?=σ (wG ν 0 0 ν 0 0)/\wr.heap[b.heap.size+3]?=σ (gY 0 0)))/\δ b.heap.size b wr from by
  have e0:W0.heap[b.heap.size]?=σ (ξ #[ψ ra rs.length rK] 291 (0,0)):=(j.1.block _ (by omega)).trans k.2.2;have e1:W0.heap[b.heap.size+1]?=σ (wG V cols.length Q A cols.length E):=(j.1.block _ (by omega)).trans k.2.1;exact⟨⟨cell0 ((c.block _ (by omega)).trans e0) 0,aR ((c.block _ (by omega)).trans e1),(c.block _ (by omega)).trans j.2.2,(c.block _ (by omega)).trans j.2.1⟩,ia.trans (c.mono ia.size)⟩))
 have b2:=Hy (hc.below ia (ae _)) h5 (bu.below U ia (ae _)) Cv D4;have a2:=ak hm;have HB:=m;have ci:=ak mQ;have cd:=hc;have Sl:=U;have cl:=ak Cv;have Qw:=ak zV;have cp:b.heap.size+3<W0.heap.size:=by omega
 clear k j r ia hc m mQ Cv zV U hm yZ;refine uG func312 rfl ?_;simp only[ntmps312,List.size_toArray,List.length_cons,List.length_nil,Nat.reduceAdd,Nat.reduceSub,Array.replicate_succ,Array.replicate_zero,List.push_toArray,List.append_toArray,List.nil_append,List.cons_append];go_wp2_with fail;rw[<- Qw.J];refine b2.mono ?_;rintro e w1 ⟨cx,-,Ax⟩;obtain⟨ov,rfl,AB⟩:=Ax nc a2.J;obtain⟨y,z,rfl,-,-⟩:=cu AB;have a4:nc.length=rs.length:=uJ a2.J;have Qq:=AB;have gq:=cx;clear AB cx Ax b2;obtain⟨n,hn⟩:=nm rs.length;rw[<- hn]at a4 bt D4;rw[a4]at Qq;rw[a4];have HN:=ak hn;clear hn a4;go_wp2_with fail;refine(xo D4).mono ?_;rintro e w2 ⟨dl,rfl,nU,cG⟩;have eH:=nU.row;rw[bB]at eH;obtain⟨ca,K,rfl,Xh,-⟩:=cu eH;obtain⟨I,rfl,-⟩:=Xh bt;have oW:δ W0.heap.size W0 w2:=gq.trans ((((ah _ _).alloc (ae _) _).trans (cG.mono (by simp))).mono gq.size);obtain⟨t,Jm⟩:=nm ((w2.alloc (wG y n z (σ ⟨I,0,ν⟩) n K)).alloc (ξ #[ψ ν 0 0] 452));obtain⟨fI,mq,yK⟩:=fX w2 (wG y n z (σ ⟨I,0,ν⟩) n K) (ξ #[ψ ν 0 0] 452);rw[<- Jm]at fI mq yK;have nB:=oW.trans (fI.mono oW.size);obtain⟨⟨x0,⟨x1,x2⟩,-⟩,-⟩:=pD.J t nB;have dg:b.heap.size+3<w2.heap.size:=ai cp oW.size;have SN:δ w1.heap.size w1 w2:=((ah _ _).alloc (ae _) _).trans (cG.mono (by simp));have cr:=SN;have cs:=SN.trans (fI.mono SN.size);have yn:=nU.below fI;have jl:=oW;have nF:=nB;have CD:=ak Jm;have b0:=ak yK;have qW:=ak mq;have bm:Hid (w2.heap.size+1<t.heap.size):=ak (aw mq);clear eH Xh nU oW cG fI yK mq Jm nB SN;go_wp2_with(first|(rw[<- CD.J])|fail);obtain⟨j0,Ml,Mn,Mp,Mq⟩:=iC Tryz.O4;have b4:Hid (J2 t t (w2.heap.size+1) cols rs (ψ ν 0 0) []):=ak ⟨qW.J,⟨rfl,.inl ⟨rfl,rfl⟩⟩,λd0 ad f c=>by simp at c,λad c=>by simp at c,λad c=>by simp at c,λad c=>by simp at c,aX.refl _ _,aw qW.J⟩;have bg:Hid (∀wr CY ws,J2 t wr (w2.heap.size+1) cols rs CY ws->wr.cell? ⟨b.heap.size+1,0,ν⟩=σ (ψ V cols.length Q)/\δ b.heap.size b wr/\t.heap.size<=wr.heap.size/\δ W0.heap.size W0 wr):=ak λwr CY ws c=>by
  have SD:=bm.J;have H:δ W0.heap.size W0 wr:=by
   have hB:=nF;have kQ:W0.heap.size<=w2.heap.size:=jl.size;exact⟨c.keep.os.trans hB.os,c.keep.tape.trans hB.tape,c.keep.output.trans hB.output,ag hB.size c.keep.size,λi m=>(c.keep.block i ⟨by omega,by omega⟩).trans (hB.block i m)⟩
  obtain⟨⟨-,⟨y1,-⟩,-⟩,hl⟩:=pD.J wr H;exact⟨y1,hl,c.keep.size,H⟩
 go_loopw[28] (λab wr=>∃(o:Nat) (va:Option Addr) (ac:Nat) (ws:List Jl),o<=rs.length/\ab=ι κ o/\ws.length=o/\Hid (J2 t wr (w2.heap.size+1) cols rs (ψ va o ac) ws)) (λab _=>rs.length - (intOf ab).toNat);case atStart=>exact⟨0,ν,0,[],aK _,rfl,rfl,b4⟩
 case round=>
  obtain⟨o,va,ac,ws,hi,rfl,an,bl⟩:=hrel;by_cases cL:o<rs.length
  .have ju:(o:Int)<rs.length:=(by omega);have d:=bl.J;obtain⟨y1,lM,SD,-⟩:=bg.J wr _ _ d;obtain⟨f,ui⟩:∃f,rs[o]?=σ f:=⟨_,af cL⟩;obtain⟨rg,ro,UU,he,c0,c1,c2,c3⟩:=UT (bu.below Sl lM (ae _)) ui;cases he;obtain⟨te,x9,-⟩:=pb f.2.1;rw[x9]at c3;obtain⟨g,D⟩:=MC a2.J ui;obtain⟨M,qM⟩:=nm (wr.alloc (ad3 f.1.1 f.1.2 f.2.2 (.iface te (qG f.2.1))));have lx:=oJ qM;have Nn:M.heap[wr.heap.size]?=σ (ad3 f.1.1 f.1.2 f.2.2 (.iface te (qG f.2.1))):=(by rw[qM];exact au wr _);have Za:=aH lx;have Xo:=zc (by omega) f.2.1 (cl.J f (aA ui)) g D M.drew M.drew.heap.size _ (cd.below (lM.trans (Za.mono lM.size)) (ae _)) (ae _);rw[x9]at Xo;obtain⟨o0,o1,o2,o3⟩:=jP (w1:=M.drew) Nn;have KO:=d.below Za;have cN:=cell0 KO.box 0;have dn:=eR KO.box 0;have cb:=pP (B:=0) y1 (.below Za);have jF:=aw KO.box;have co:wr.heap.size<M.drew.heap.size:=aw (w:=M.drew) Nn;have yq:M.drew.cell? ⟨wr.heap.size,3,ν⟩=σ (.iface te (qG f.2.1))/\M.drew.cell? ⟨b.heap.size+1,0,ν⟩=σ (ψ V cols.length Q):=⟨o3,cb⟩;simp only[List.getElem?_toArray,List.getElem?_cons_zero]at cN;have QA:=d;have bc:=Za;have NY:Hid (rs[ws.length]?=σ f):=ak (by rw[an];exact ui);have uz:=ak qM;have WR:=ak Nn;have c7:w2.heap.size+1<t.heap.size:=bm.J;have dx:rs.length<=1000:=(by have:=HN.J;omega)
   clear d lx Nn Za ui lM qM y1 KO D;go_wp2_with fail;rw[<- uz.J];go_region_law(first
    | (refine step_append_lies _ rfl (.tmp 32) (.tmp 39) 452 rfl t.heap.size 141 j0 _ 1 8 underlying452 Ml Mn Mp Mq rfl (by decide) (ψ va o ac) o (ws.map (·.wv)) rfl uk.J ⟨v.heap.size,0,ν⟩ 1 1 [.func (.func fk) #[] fc] rfl rfl uj.J (by simp[Value.oneCell']) (by decide) (by unfold maxLen;omega) (by omega) Jk.J (v.heap.size+1) vW.J ?_;intro C eZ w5 bS bY dT _;obtain⟨n1,n2,n3,n4⟩:=QF.J w5 bY;have ZN:=ak bS;have YZ:=ak bY;have ce:=ak dT;have WQ:=And.intro n1 n2;clear bS bY dT)
    | (refine ie rfl 153 _ _ rfl call153 #[.iface te (qG f.2.1),ψ V cols.length Q] (by first|(simp[Act.eval];done)|(simp[Act.eval,Act.put];done)|rfl) _ (by with_reducible exact Xo) ?_;rintro e v ⟨wv,rfl,FR,mK⟩;refine⟨_,rfl,?_⟩;obtain⟨fk,fc,c5,-⟩:=id FR;subst c5;have aq:=QA.below (bc.trans (mK.mono bc.size));have k0:=cell0 aq.box 0;have kz:=eR aq.box 0;simp only[List.getElem?_toArray,List.getElem?_cons_zero]at k0;have ds:=aw aq.box;have Uz:v.cell? ⟨wr.heap.size,3,ν⟩=σ (.iface te (qG f.2.1))/\v.cell? ⟨b.heap.size+1,0,ν⟩=σ (ψ V cols.length Q):=⟨pP (B:=0) o3 (.below mK),pP (B:=0) cb (.below mK)⟩;have dS:wr.heap.size<v.heap.size:=ai co mK.size;have b3:v.ownsRow t.heap.size 141 1 (ψ va o ac) o (ws.map (·.wv)):=(by have h9:=aq.row;rw[an]at h9;exact h9);have uk:=ak (b3.alloc (ξ #[.func (.func fk) #[] fc] 141 (0,0)));have uj:=ak (World.news_of_block (au v (ξ #[.func (.func fk) #[] fc] 141 (0,0))));have cm:=ak FR;have zO:=ak mK;have a0:=ak aq;have Jk:Hid (t.heap.size<=(v.alloc (ξ #[.func (.func fk) #[] fc] 141 (0,0))).heap.size):=ak (by simp<;>omega);have vW:Hid ((v.alloc (ξ #[.func (.func fk) #[] fc] 141 (0,0))).heap.size=v.heap.size+1):=ak (by simp);have QF:Hid (∀w5,(v.alloc (ξ #[.func (.func fk) #[] fc] 141 (0,0))).grownBy w5 (Value.slice va o ac).ownBlock->w5.cell? ⟨wr.heap.size,3,ν⟩=σ (.iface te (qG f.2.1))/\w5.cell? ⟨b.heap.size+1,0,ν⟩=σ (ψ V cols.length Q)/\w5.cell? ⟨w2.heap.size+1,0,ν⟩=σ (ψ va o ac)/\w5.frozen? ⟨w2.heap.size+1,0,ν⟩=false):=ak (λw5 hg=>by
        have fE:∀i,i<t.heap.size\/i=wr.heap.size->(Value.slice va o ac).ownBlock≠σ i:=λi m e=>by have:=QA.row.lt i e;omega
        have fb:∀i X,v.heap[i]?=σ X->(i<t.heap.size\/i=wr.heap.size)->w5.heap[i]?=σ X:=λi X c m=>(hg.block i (ai (aw c) (by simp)) (λe=>fE i m e.symm)).trans (Ii c);have e1:=fb _ _ ((mK.block _ (aw (w:=M.drew) WR.J)).trans WR.J) (.inr rfl);have e3:=fb _ _ a0.J.box (.inl c7);refine⟨(jP e1).2.2.2,?_,cell0 e3 0,eR e3 0⟩;exact(bZ (w:=v) (a:=⟨b.heap.size+1,0,ν⟩) ((hg.block (b.heap.size+1) (by simp<;>omega) (λe=>fE (b.heap.size+1) (.inl (by omega)) e.symm)).trans (ct _ _ (b.heap.size+1) (by omega)))).trans Uz.2);clear FR mK aq b3))
   all_goals
    have bi:Hid (J2 t (w5.setCell ⟨w2.heap.size+1,0,ν⟩ (ψ (σ ⟨C,0,ν⟩) (o+1) eZ)) (w2.heap.size+1) cols rs (ψ (σ ⟨C,0,ν⟩) (o+1) eZ) (ws++[⟨.func (.func fk) #[] fc,v,M.drew.heap.size,λrow=>cU cols row f.2.1⟩])):=ak (by
     have h9:=QA.more (x:=⟨.func (.func fk) #[] fc,v,M.drew.heap.size,λrow=>cU cols row f.2.1⟩) (g:=C) (cap:=eZ) (w3:=w5) bc zO.J NY.J rfl cm.J rfl rfl (by rw[an];exact ZN.J) YZ.J ce.J;rw[an]at h9;exact h9)
    (try go_wp2_with fail);go_roundw;(case rel=>exact⟨o+1,_,_,_,by omega,by go_num,by simp[an],bi⟩);case measure=>simp[intOf];omega
  obtain rfl:o=rs.length:=by omega
  have d:=bl.J;obtain⟨-,-,SD,H⟩:=bg.J wr _ _ d;obtain⟨⟨-,⟨-,y2⟩,-⟩,-⟩:=pD.J wr H;have Kr:nc.length=n:=by rw[uJ a2.J];exact HN.J.symm
  have ao:ws.length=n:=by rw[an];exact HN.J.symm
  have b5:=U1 an d.fs;have T:Em W0 wr W0.heap.size cols nc (ψ y n z) w2.heap.size (ψ va rs.length ac) ws (ψ (σ ⟨I,0,ν⟩) n K) (List.replicate n sL) (bh n []):=(by have r:=bm.J;have eq:∀i,i<t.heap.size->i≠w2.heap.size+1->wr.heap[i]?=t.heap[i]?:=λi k j=>d.keep.block i ⟨k,j⟩;have nB:=nF;have ho:=yn.lower (base':=W0.heap.size) (by have:=gq.size;simp;omega);have yB:=cq Qq cs;refine⟨H,(eq _ (by omega) (by omega)).trans b0.J,d.box,ho.same (λi m=>eq i (ho.inside m).2 (λe=>?_)),eB d.row nB.size,d.wk,λad hx i m=>.inl (ai (ho.inside m).2 (d.lo ad hx)),ae _,?_⟩;{subst e;exact ho.FM qW.J (by decide) m};rw[Kr];exact eJ yB (λC hg=>eq C (yB.lt C hg).2 (by have:=(Qq.lt C hg).2;have:=cr.size;omega)))
  have HM:=T;have a3:=ak Kr;have bi:=ak ao;have cg:=ak b5;clear d H Kr ao b5 T bl SD bg b4 yn Qq b0 qW;go_wp2_with(go_at_call 125;refine(xl _ _ _ _ _).mono ?_;rintro f w' ⟨rfl,dN⟩);obtain⟨W4,QC⟩:=nm ((wr.alloc (ξ #[ψ A cols.length E] 152)).alloc (ξ #[ι κ S] 3));obtain⟨Y5,GM,Fu⟩:=fX wr (ξ #[ψ A cols.length E] 152) (ξ #[ι κ S] 3);rw[<- QC]at Y5 GM Fu ⊢;have b1:=HM.below Y5;have cc:Hid (FK W4 wr.heap.size (ψ A cols.length E) S):=ak ⟨Fu,GM⟩;have Np:Hid (W0.heap.size<=wr.heap.size/\wr.heap.size<=W4.heap.size):=ak ⟨HM.low.size,Y5.size⟩;have Sl:Hid (∀wx,δ W0.heap.size W0 wx->eC wx (ψ A cols.length E) (bh cols.length R)):=ak λwx c=>HB.below (pD.J wx c).2 (ae _);have a0:Hid (∀ad∈ws,ad.a.heap.size<=W4.heap.size):=ak λad hx=>(b1.wk ad hx).kept.1;clear QC Y5 GM Fu HM;refine wC (n:=9).1 (Gf (a1:=?a1) (by decide) rfl call155 (CN (q:=wr.heap.size) (q2:=wr.heap.size+1) (S:=S) (N:=R.length) (bv:=ψ A cols.length E) (L:=bh cols.length R) hS Az (λab hc=>ep hc) hR (by intro c;have:=bB cols.length R;rw[c]at this;simp at this;omega) (by rw[bB];exact h5))
   (λg P=>∃vs R',Em W0 P W0.heap.size cols nc (ψ y n z) w2.heap.size (ψ va rs.length ac) ws (ψ (σ ⟨I,0,ν⟩) n K) vs (bh n R')/\FK P wr.heap.size (ψ A cols.length E) S/\dG (oN cols rs) (R.take g)=.inr R')
   (λab P=>ab=.ret/\∃p vs L,dG (oN cols rs) R=.inl p/\gu P W0.heap.size (ψ (σ ⟨I,0,ν⟩) n K) vs L/\P.ownsRow W0.heap.size 202 2 (ψ y n z) nc.length (nc.flatMap mP)/\P.heap[b.heap.size+2]?=σ (wG y n z (σ ⟨I,0,ν⟩) n K)/\P.heap[b.heap.size+3]?=σ (gY 9 p)/\δ b.heap.size b P)
   (λg P c=>by obtain⟨_,_,k,j,_⟩:=c;exact⟨cell0 j.1 0,cell0 j.2 0,Sl P k.low⟩) ?hI ?hIx (λg b7 c8 bw B c Y=>c.turn Y) ⟨_,[],b1,cc.J,by simp[dG]⟩ ?assign ?body ?done ?stop)
  (case hI=>rintro g bw B ⟨vs,R',k,j,w⟩ Y;exact⟨vs,R',k.turn Y (ag Np.J.1 Np.J.2) a0.J,⟨Y.eW _ _ j.1 (.inr rfl),Y.eW _ _ j.2 (.inr rfl)⟩,w⟩);(case hIx=>rintro ab bw B ⟨rfl,p,vs,L,k,j,w,h4,ap,h6⟩ Y;exact⟨rfl,p,vs,L,k,j.turn Y,oZ w Y,Y.eW _ _ h4 (.inr rfl),Y.eW _ _ ap (.inr rfl),sQ h6 Y (by have:=Np.J;omega) (ae _)⟩);(case assign=>intro l b7 P dd hK;gi_wp2;exact hK);(case stop=>rintro a9 ab O hD ⟨rfl,p,vs,L,k,j,w,h4,ap,h6⟩ BG;have tD:=ak (And.intro k (And.intro j (And.intro w (And.intro h4 (And.intro ap h6)))));have bd:=ak BG;clear k j w h4 ap h6 BG;refine wC.2 ?_;go_wp2_with fail;obtain⟨k,j,w,h4,ap,h6⟩:=tD.J;refine rQ (B:=b.heap.size+4) (.one (by have:=Np.J;omega) bd.J) λw' s=>?_;obtain⟨q0,q1⟩:w'.cell? ⟨b.heap.size+1+1,0,ν⟩=_/\w'.cell? ⟨b.heap.size+1+1,1,ν⟩=_:=aR (s.eW _ _ h4 (.inr rfl));obtain⟨q2,q3⟩:w'.cell? ⟨b.heap.size+1+1+1,0,ν⟩=_/\w'.cell? ⟨b.heap.size+1+1+1,1,ν⟩=_:=aR (s.eW _ _ ap (.inr rfl));have cS:L.length=nc.length:=(by obtain⟨a',c',he,-,-⟩:=cu j.row;cases he;exact a3.J.symm);refine⟨.tuple #[χ #[ψ y n z,ψ (σ ⟨I,0,ν⟩) n K],χ #[ι κ 9,ι κ p]],by simp[results,results312,go_sem,q0,q1,q2,q3],_,_,_,_,_,_,rfl,sQ h6 s (by omega) (ae _),⟨y,z,by rw[a3.J]⟩,λp' hp=>?_,λR' ax=>?_,λam T=>⟨En (oZ w s) (λg D=>by have:=T g D;omega),⟨L,cS,C4 (j.turn s) (λg D=>by have:=T g D;omega)⟩,λR' ax=>?_⟩⟩;{rw[k]at hp;cases hp;exact⟨rfl,rfl⟩};{rw[k]at ax;cases ax};rw[k]at ax;cases ax);case done=>
   rintro a9 g O hD D7 ⟨vs,R',d,-,x⟩ BG;rw[aI D7]at x;obtain⟨t0,t1⟩:=aR d.bo;obtain⟨⟨-,-,F,G⟩,H⟩:=pD.J O d.low;have n8:w2.heap.size≠b.heap.size+1+1/\w2.heap.size≠b.heap.size+1+1+1:=(by omega);have HL:=aa9 (B:=b.heap.size) (rb:=b.heap.size+1+1) (rc:=b.heap.size+1+1+1) (x:=ψ y n z) (y:=ψ (σ ⟨I,0,ν⟩) n K) (u:=ι κ 0) (v:=ι κ 0) F G (by omega) (by omega) (by omega);have bb:=d;have be:=H;have HE:=ak x;have bd:=ak BG;have Oi:Hid (b.heap.size+4<=a9):=ak (by have:=Np.J;omega);have f0:O.cell? ⟨b.heap.size+1+1,0,ν⟩=_:=(aR F).1;have f1:O.cell? ⟨b.heap.size+1+1,1,ν⟩=_:=(aR F).2;have f2:O.cell? ⟨b.heap.size+1+1+1,0,ν⟩=_:=(aR G).1;have f3:O.cell? ⟨b.heap.size+1+1+1,1,ν⟩=_:=(aR G).2;have z0:O.frozen? ⟨b.heap.size+1+1,0,ν⟩=false:=eR F 0;have z1:O.frozen? ⟨b.heap.size+1+1,1,ν⟩=false:=eR F 1;have z2:O.frozen? ⟨b.heap.size+1+1+1,0,ν⟩=false:=eR G 0;have z3:O.frozen? ⟨b.heap.size+1+1+1,1,ν⟩=false:=eR G 1;clear d F G H BG x D7;go_wp2_with fail;generalize (((O.setCell _ _).setCell _ _).setCell _ _).setCell _ _=Z at HL ⊢;have r:=HL;have d:=bb;have c4:=Oi.J;have x:=HE.J;refine rQ (B:=b.heap.size+4) (.one c4 ((r.rest a9 (by omega) (by omega)).trans bd.J)) λw' s=>?_;obtain⟨q0,q1⟩:=aR (s.eW _ _ r.b1 (.inr rfl));obtain⟨q2,q3⟩:=aR (s.eW _ _ r.b2 (.inr rfl));have m:∀am:Nat->Prop,(∀i,am i->i<b.heap.size)->iU am w' (ψ (σ ⟨I,0,ν⟩) n K) (bh nc.length R'):=λam T=>by rw[a3.J];exact C4 ((d.own.moved (λi m=>r.rest i (by omega) (by omega))).turn s) (λg D=>by have:=T g D;omega)
   refine⟨.tuple #[χ #[ψ y n z,ψ (σ ⟨I,0,ν⟩) n K],χ #[ι κ 0,ι κ 0]],by simp[results,results312,go_sem,q0,q1,q2,q3],_,_,_,_,_,_,rfl,sQ (r.low b be) s (by omega) (ae _),⟨y,z,by rw[a3.J]⟩,λp' hp=>?_,λR2 r8=>?_,λam T=>⟨En (oZ (eJ d.kr (λC hg=>by have:=(d.kr.lt C hg).1;exact r.rest C (by omega) (by omega))) s) (λg D=>by have:=T g D;omega),⟨_,bB _ _,m am T⟩,λR2 r8=>?_⟩⟩;{rw[x]at hp;cases hp};{rw[x]at r8;cases r8;exact⟨rfl,rfl⟩};rw[x]at r8;cases r8;exact m am T
  case body=>
   rintro l g b7 Wp Wr ⟨vs,R',AA,a5,ar⟩ s D7 OC;obtain⟨b6,hm⟩:=nm (min (g+S) R.length);rw[<- hm,tM]at OC;obtain⟨ch,uH⟩:=nm ((R.drop g).take (b6 - g));rw[<- uH]at OC;have O5:ch.length=b6 - g:=by rw[uH,bV,bW];omega
   have cn:ch.length<=64:=by omega
   have hv:=(OC (λ_=>False) (λ_ c=>c.elim) ((Sl Wp AA.low).away (by rw[bB];exact h0) (λab hc=>by rw[ep hc];omega) (ah _ _) (λ_ c=>c.elim))).batch;have d:=AA.turn s (ag Np.J.1 Np.J.2) a0.J;have hP:FK Wr wr.heap.size (ψ A cols.length E) S:=⟨s.eW _ _ a5.1 (.inr rfl),s.eW _ _ a5.2 (.inr rfl)⟩;obtain⟨d1,dq,he⟩:=hv.slice;rw[bB]at he;subst he;have av:∀f∈ch,gI cols f:=λf U=>ci.J f (by rw[uH]at U;exact iy (eG U));have aC:R.take (g+S)=R.take g++ch:=by
    rw[vy,uH,hm];congr 1;by_cases j:g+S<=R.length
    . rw[fA j,mJ]
    . rw[mH (by omega),aI (by rw[bW];omega),aI (by rw[bW];exact ae _)]
   have bo:R'.length<=900:=by have:=zW ar;rw[bV]at this;omega
   have ao:=bi.J;have al:=J1 (w:=Wr) (kv:=ψ y n z) (R:=R') (ok:=gI cols) (N:=ch.length) (by rw[ao];exact d.own) (by rw[ao];exact bt) (by rw[ao];exact D4) hv (by rw[bB];exact h0) (λab hc=>ep hc) cn (λf U=>by rw[nW (n:=cols.length) (row:=ch[f]) (af U) (av _ (cF _)).1];exact av _ (cF _)) (by have:=bu.eY d.row;exact this) d.wk bo d.low.size ⟨_,_,_,rfl⟩;rw[cg.J,Xm (oN cols rs) (λf U=>(av f U).1),ao]at al;obtain⟨u0,u1⟩:=aR d.bo;have u2:=cell0 d.bw 0;simp only[List.getElem?_toArray,List.getElem?_cons_zero]at u2;have QG:=aw d.bo;have c6:=aw d.bw;have a1:=d;have ck:=hP;have c9:=ak ar;have Zb:=ak aC;have db:=ak D7;have Y0:=ak (And.intro uH hm)
   cases x:dG (oN cols rs) ch with
   |inr Rs=>
     have al:=CallsIn.inRound l (jI (n:=6).2 (al.mono λe w' c=>c.2 Rs x));have VG:Hid (dG (oN cols rs) (R.take (g+S))=.inr (R'++Rs)):=ak (by rw[aC];exact Xl ar x);clear d hP ar aC OC AA a5 s x av uH hm O5 D7 hv bo
     gi_wp2_with (first
      | ((first|refine⟨trivial,(λc=>nomatch c),?_⟩|refine⟨trivial,?_⟩);gi_at_call 313;(with_reducible refine lW al ?_);rintro e' aa ⟨rfl,pZ,lZ⟩)
      | ((first|refine⟨trivial,(λc=>nomatch c),?_⟩|refine⟨trivial,?_⟩);gi_at_call 27;(with_reducible refine lW (CallsIn.inRound l (jI (n:=6).2 (JC _ _ _))) ?_);rintro e' a8 ⟨rfl,cG⟩))
     obtain⟨n1,n2⟩:=a1.next (B:=W4.heap.size) (ah _ _) lZ;have m:=SJ (ld aa _) cG;have hP:=ck;exact⟨⟨ag n2.size m.size,λg X k j w=>vA m g X (n2.same g X k j w)⟩,pZ,_,n1.below m,⟨vA m _ _ (a1.CZ (ah _ _) lZ hP.1 (by decide)),vA m _ _ (a1.CZ (ah _ _) lZ hP.2 (by decide))⟩,VG.J⟩
   |inl p=>
     have al:=CallsIn.inRound l (jI (n:=6).2 (al.mono λe w' c=>c.1 p x));have VG:Hid (dG (oN cols rs) R=.inl p):=ak (by
      rw[show R=R.take (g+S)++R.drop (g+S)from(gV _ _).symm,aC];exact abb ar x)
     clear d hP ar aC OC AA a5 s x av uH hm O5 D7 hv bo
     gi_wp2_with (first
      | ((first|refine⟨trivial,(λc=>nomatch c),?_⟩|refine⟨trivial,?_⟩);gi_at_call 313;(with_reducible refine lW al ?_);rintro e' aa ⟨rfl,pZ,L',lZ⟩)
      | ((first|refine⟨trivial,(λc=>nomatch c),?_⟩|refine⟨trivial,?_⟩);gi_at_call 27;(with_reducible refine lW (CallsIn.inRound l (jI (n:=6).2 (JC _ _ _))) ?_);rintro e' a8 ⟨rfl,cG⟩))
     have DR:prog.follows .mixedOrders=true:=by kernel_rfl
     refine sN (m:=4) (ls:=#[false,false,false,false]) DR (by kernel_rfl) (λ⟨_,_,c⟩=>c) rfl rfl ?_;obtain⟨n1,n2⟩:=a1.next (B:=W4.heap.size) (ah _ _) lZ;have a6:δ aa.heap.size aa a8.drew:=aH (SJ (ld aa _) cG);have JY:a8.drew.heap[aa.heap.size]?=σ (gY 9 p):=vA cG _ _ (au aa _);generalize a8.drew=u at *;have d:=n1.below a6;obtain⟨t0,t1⟩:=aR d.bo;obtain⟨t2,t3⟩:=aR JY;have yq:=And.intro (And.intro t0 t1) (And.intro t2 t3);obtain⟨⟨-,-,F,G⟩,H⟩:=pD.J u d.low;have n8:(w2.heap.size≠b.heap.size+1+1/\w2.heap.size≠b.heap.size+1+1+1)/\(aa.heap.size≠b.heap.size+1+1/\aa.heap.size≠b.heap.size+1+1+1):=by have:=n1.low.size;omega
     have HL:=aa9 (B:=b.heap.size) (rb:=b.heap.size+1+1) (rc:=b.heap.size+1+1+1) (x:=ψ y n z) (y:=ψ (σ ⟨I,0,ν⟩) n K) (u:=ι κ 9) (v:=ι κ p) F G (by omega) (by omega) (by omega);have cf:Hid (KeepsFrom W4.heap.size Wr u):=ak ⟨ag n2.size a6.size,λg X k j w=>vA a6 g X (n2.same g X k j w)⟩;have bb:=d;have be:=H;have f0:u.cell? ⟨b.heap.size+1+1,0,ν⟩=_:=(aR F).1;have f1:u.cell? ⟨b.heap.size+1+1,1,ν⟩=_:=(aR F).2;have f2:u.cell? ⟨b.heap.size+1+1+1,0,ν⟩=_:=(aR G).1;have f3:u.cell? ⟨b.heap.size+1+1+1,1,ν⟩=_:=(aR G).2;have z0:u.frozen? ⟨b.heap.size+1+1,0,ν⟩=false:=eR F 0;have z1:u.frozen? ⟨b.heap.size+1+1,1,ν⟩=false:=eR F 1;have z2:u.frozen? ⟨b.heap.size+1+1+1,0,ν⟩=false:=eR G 0;have z3:u.frozen? ⟨b.heap.size+1+1+1,1,ν⟩=false:=eR G 1;clear d F G H JY a6 n1 n2 lZ cG u0 u1 u2 QG c6;refine wpAny_of_held (S:=λu=>(u.cell? ⟨w2.heap.size,0,ν⟩=σ (ψ y n z)/\u.cell? ⟨w2.heap.size,1,ν⟩=σ (ψ (σ ⟨I,0,ν⟩) n K))/\u.cell? ⟨aa.heap.size,0,ν⟩=σ (ι κ 9)/\u.cell? ⟨aa.heap.size,1,ν⟩=σ (ι κ p)) _ _ _ _ ?_;refine kT (i:=0) rfl (by kernel_rfl) (λ_ _ _ c=>c) (by rintro wz ⟨⟨g1,g2⟩,g3,g4⟩;go_simp;with_reducible rfl) yq ?_;refine kT (i:=1) rfl (by kernel_rfl) (λ_ _ _ c=>c) (by rintro wz ⟨⟨g1,g2⟩,g3,g4⟩;go_simp;with_reducible rfl) yq ?_;refine qO (i:=2) (by kernel_rfl) rfl (by rfl) ?_;unfold iR;simp only[Act.put];go_simp;refine qO (i:=3) (by kernel_rfl) rfl (by rfl) ?_;unfold iR;go_simp;refine wpAnyH_done (by kernel_rfl) ?_ _;generalize (((u.setCell _ _).setCell _ _).setCell _ _).setCell _ _=Z at HL ⊢;clear f0 f1 f2 f3 z0 z1 z2 z3 t0 t1 t2 t3 yq
     gi_wp2;have r:=HL;have d:=bb;have D:=cf.J;have lI:=Np.J;exact⟨⟨ag D.size r.size,λg X k j w=>(r.rest g (by omega) (by omega)).trans (D.same g X k j w)⟩,rfl,p,pZ,L',VG.J,d.own.moved (λi m=>r.rest i (by omega) (by omega)),eJ d.kr (λC hg=>by have:=(d.kr.lt C hg).1;exact r.rest C (by omega) (by omega)),r.b1,r.b2,r.low b be⟩
end
def qp(sh:List Nat)(r:List aD):List aD:=sh.map λs=>r.getD s fD
def jV(F:List aD->dj)(sh:List Nat)(R:List (List aD)):List (List aD):=(R.filter λr=>pQ (F r)).map (qp sh)
theorem Da(b:List aD->dj)(c:List Nat)(d B:List (List aD)):jV b c (d++B)=jV b c d++jV b c B:=by unfold jV;rw[pJ,dY]
theorem vY(b:List aD->dj)(c:List Nat)(R:List (List aD)):(jV b c R).length<=R.length:=by unfold jV;rw[aQ];exact fH _ _
structure J4 where
 p:Nat
 wv:υ
 a:ω
 lo:Nat
 e:Ex
abbrev K4:=J4×KQ
def pS(cols:List br):List K4->List (List aD)->List (List aD)->Prop
 |[],R,R'=>R'=R
 |x::l,R,R'=>∃R1,vT (λrow=>cU cols row x.1.e) R R1 x.2/\R1.length<=R.length/\pS cols l R1 R'
theorem pS.snoc{cols:List br}{x:K4}{b R2:List (List aD)}:∀{l:List K4} {R:List (List aD)},pS cols l R b->vT (λrow=>cU cols row x.1.e) b R2 x.2->R2.length<=b.length->pS cols (l++[x]) R R2
 |[],_,h,hx,hl=>by cases h;exact⟨_,hx,hl,rfl⟩
 |_::_,_,⟨R0,h1,h2,h3⟩,hx,hl=>⟨R0,h1,h2,h3.snoc hx hl⟩
theorem pS.new{cols:List br}:∀{l:List K4},(∀b∈l,b.2=(0,0,0))->pS cols l [] []
 |[],_=>rfl
 |b::l,h=>⟨[],by rw[h b (dv ..)];exact vT.nil _,ae _,pS.new λd c=>h d (cy _ c)⟩
theorem pS.len{cols:List br}:∀{l:List K4} {R R':List (List aD)},pS cols l R R'->R'.length<=R.length
 |[],_,_,h=>by cases h;exact ae _
 |_::_,_,_,⟨_,_,h2,h3⟩=>ag h3.len h2
theorem SZ{c:List (List aD)}(j:∀b∈t,b<m):(t.map λb=>(bh m c).getD b [])=bh t.length (c.map (qp t)):=by
 apply cB;intro d;rw[aV]
 cases hj:t[d]? with
 |none=>
   have:t.length<=d:=List.getElem?_eq_none_iff.mp hj;rw[aZ (by rw[bB];exact this)];rfl
 |some b=>
   have g:=(aj.mp hj).1;have k:=j b (aA hj);rw[gA g,lG];have i:(bh m c).getD b []=c.map λf=>f.getD b fD:=by simp[List.getD,gA k]
   rw[i,ig];congr 1;refine eO λf _=>?_;simp[qp,List.getD,hj]
theorem Pf{sh:List Nat}{b:List (List aD)}(d:List aD->dj)(k:∀c∈b,c.length=m):((List.range b.length).filter λc=>pQ (d (rowOf (bh m b) c))).map (λc=>(b.map (qp sh)).getD c [])=jV d sh b:=by
 have e:b=(List.range b.length).map (λc=>b.getD c []):=(by apply cB;intro r;rw[aV];by_cases g:r<b.length;{rw[eP g];simp[List.getD,List.getElem?_eq_getElem g]};rw[aZ (by omega),aZ (by simp;omega)];rfl);unfold jV;conv=>rhs;rw[e]
 rw[nA,ig];have j:(List.range b.length).filter (λc=>pQ (d (rowOf (bh m b) c)))=(List.range b.length).filter ((λc=>pQ (d c)) ∘ λc=>b.getD c []):=uS λs o=>by
  have f:=dB.mp o;rw[nW (row:=b[s]) (af f) (k _ (cF _))];simp[List.getD,List.getElem?_eq_getElem f]
 rw[j];refine eO λc n=>?_;have i:=dB.mp (eA.mp n).1;simp[List.getD,i]
theorem aby{m:Nat}{sch:List (List aD)}{idx:List Nat}(c:List aD->dj)(d:KQ)(j:∀b∈sch,b.length=m)(i:∀b∈idx,b<sch.length):kZ c (idx.map λb=>sch.getD b []) d=((kZ (λb=>c (rowOf (bh m sch) b)) idx d).1.map (λb=>sch.getD b []),(kZ (λb=>c (rowOf (bh m sch) b)) idx d).2):=by rw[KV,E6 (G:=λb=>c (rowOf (bh m sch) b)) d (λg k=>?_)];have f:=i g k;rw[nW (row:=sch[g]) (af f) (j _ (cF _))];simp[List.getD,List.getElem?_eq_getElem f]
theorem afA{cols:List br}{f:List aD}(i:gI cols f)(k:∀b∈t,b<cols.length):gI (t.map λb=>cols.getD b default) (qp t f):=by
 refine⟨by simp[qp],λm o r c d j=>?_⟩;unfold qp at c;rw[aV]at c d
 cases hj:t[m]? with
 |none=>rw[hj]at c;cases c
 |some b=>
   rw[hj]at c d
   cases c
   cases d
   have g:=k b (aA hj);have n:b<f.length:=by rw[i.1];exact g
   exact i.2 b _ _ (by simp[List.getD,List.getElem?_eq_getElem n]) (by simp[List.getD,List.getElem?_eq_getElem g]) j
structure zo (cols:List br)(B C:Nat)(fg:List J4):Prop where
 work:∀x∈fg,dJ x.a x.lo x.wv (gI cols) (λrow=>cU cols row x.e)
 wf:∀x∈fg,pz x.e/\cH cols x.e=.inl 2
 ap:fg.Pairwise (λx y=>x.p≠y.p)
 off:∀x∈fg,∀y∈fg,x.p<y.lo\/y.a.heap.size<=x.p
 low:∀x∈fg,B<=x.p/\x.p<C/\x.a.heap.size<=C
def xV(W:ω)(l:List K4):Prop:=∀x∈l,W.heap[x.1.p]?=σ (BL x.1.wv x.2)/\ft x.1.lo x.1.a.heap.size x.1.a W
structure Gj (W0 W:ω)(cols:List br)(fg:List J4)(kv:υ)(b8 b9:Nat)(cv:υ)(vs:List υ)(l:List K4)(N:Nat)(R':List (List aD)):Prop where
 keep:aX (λb=>b<W0.heap.size/\∀x∈fg,b≠x.p) W0 W
 bo:W.heap[b8]?=σ (ξ #[kv,cv] 154 (0,0))
 bc:W.heap[b9]?=σ (ξ #[ι κ N] 3 (0,0))
 own:gu W W0.heap.size cv vs (bh cols.length R')
 sv:xV W l
 ln:l.map (·.1)=fg
 hb:W0.heap.size<=b8/\W0.heap.size<=b9
 kr:W.ownsRow W0.heap.size 202 2 kv cols.length (cols.flatMap mP)
section
variable {w0 W0 W W' w1 w2:ω} {B b8 b9 N:Nat} {cols:List br} {fg:List J4} {kv cv:υ} {vs pZ:List υ} {l l1 l2:List K4} {R R' R2:List (List aD)}
theorem xV.on(k:xV W l)(n:W.heap.size<=W'.heap.size)(g:∀c,c<B->c<W.heap.size->W'.heap[c]?=W.heap[c]?)(m:∀b∈l,b.1.p<B/\b.1.a.heap.size<=B):xV W' l:=λb i=>by
 obtain⟨f,d⟩:=k b i;have:=m b i;exact⟨(g _ this.1 (aw f)).trans f,ag d.1 n,λj l1 l2=>(g j (by omega) (ai l2 d.1)).trans (d.2 j l1 l2)⟩
theorem Gj.mem(c:Gj W0 W cols fg kv b8 b9 cv vs l N R'){b:K4}(d:b∈l):b.1∈fg:=by rw[<- c.ln];exact mr d
theorem Gj.below(c:Gj W0 W cols fg kv b8 b9 cv vs l N R')(b:δ W.heap.size W W'):Gj W0 W' cols fg kv b8 b9 cv vs l N R':=
 ⟨c.keep.trans ⟨b.os,b.tape,b.output,b.size,λg i=>b.block g (ai i.1 c.keep.size)⟩,vA b _ _ c.bo,vA b _ _ c.bc,c.own.below b,λf d=>⟨vA b _ _ (c.sv f d).1,(c.sv f d).2.below b⟩,c.ln,c.hb,cq c.kr b⟩
theorem Gj.turn(j:zo cols B W0.heap.size fg)(c:Gj W0 W cols fg kv b8 b9 cv vs l N R')(d:nS m W W')(r:W0.heap.size<=m):Gj W0 W' cols fg kv b8 b9 cv vs l N R':=by
 have f:∀b,b<W0.heap.size->b<W.heap.size->W'.heap[b]?=W.heap[b]?:=λb n o=>by
  have g:W.heap[b]?=σ W.heap[b]:=eu _;rw[g];exact d.eW b _ g (.inl (by omega))
 exact⟨c.keep.trans ⟨d.os,d.tape,d.output,d.size,λb i=>f b i.1 (ai i.1 c.keep.size)⟩,d.eW _ _ c.bo (.inr rfl),d.eW _ _ c.bc (.inr rfl),c.own.turn d,c.sv.on d.size f (λs k=>(j.low _ (c.mem k)).2),c.ln,c.hb,oZ c.kr d⟩
theorem Gj.low(g:zo cols w0.heap.size W0.heap.size fg)(c:Gj W0 W cols fg kv b8 b9 cv vs l N R')(b:δ w0.heap.size w0 W0):δ w0.heap.size w0 W:=
 ⟨c.keep.os.trans b.os,c.keep.tape.trans b.tape,c.keep.output.trans b.output,ag b.size c.keep.size,λd f=>(c.keep.block d ⟨ai f b.size,λj i e=>by have:=(g.low j i).1;omega⟩).trans (b.block d f)⟩
theorem Gj.count(o:zo cols B W0.heap.size fg)(b:Gj W0 W cols fg kv b8 b9 cv vs l N R')(f:Nat):Gj W0 (W.setCell ⟨b9,0,ν⟩ (ι κ f)) cols fg kv b8 b9 cv vs l f R':=by
 have d:∀c,c≠b9->(W.setCell ⟨b9,0,ν⟩ (ι κ f)).heap[c]?=W.heap[c]?:=λc i=>ay _ _ _ _ i;have s:b8≠b9:=λe=>by have g:=b.bo;rw[e,b.bc]at g;cases g
 refine⟨b.keep.setCell (p:=⟨b9,0,ν⟩) (λn=>by have:=n.1;have:=b.hb.2;dsimp only at *;omega) _,(d _ s).trans b.bo,aN _ b9 0 _ _ _ b.bc,b.own.same (λc i=>d c (λe=>by subst e;exact b.own.FM b.bc (by decide) i)),b.sv.on (by simp[World.setCell]) (λc g _=>d c (by have:=b.hb.2;omega)) (λu r=>(o.low _ (b.mem r)).2),b.ln,b.hb,eJ b.kr (λk m=>d k (λe=>?_))⟩;subst e;obtain⟨t,j⟩:=qk b.kr m;rw[b.bc]at j;cases j
theorem Gj.kept{d:K4}{A:KQ}(s:zo cols B W0.heap.size fg)(b:Gj W0 W cols fg kv b8 b9 cv vs (l1++d::l2) N R')(F:w2.heap[d.1.p]?=σ (BL d.1.wv A))(m:aX (λc=>c<W.heap.size/\c≠d.1.p) W w2):Gj W0 w2 cols fg kv b8 b9 cv vs (l1++(d.1,A)::l2) N R':=by
 have t:d.1∈fg:=b.mem (by simp);have G:=s.low _ t;have g:∀c,c<W.heap.size->c≠d.1.p->w2.heap[c]?=W.heap[c]?:=λc D E=>m.block c ⟨D,E⟩;have k:=b.hb;refine⟨b.keep.trans ⟨m.os,m.tape,m.output,m.size,λc k=>g c (ai k.1 b.keep.size) (k.2 _ t)⟩,(g _ (aw b.bo) (by omega)).trans b.bo,(g _ (aw b.bc) (by omega)).trans b.bc,b.own.same (λc k=>g c (b.own.inside k).2 (by have:=(b.own.inside k).1;omega)),λi f=>?_,?_,b.hb,eJ b.kr (λr x=>g r (b.kr.lt r x).2 (by have:=(b.kr.lt r x).1;omega))⟩
 .have u:∀n:K4,n∈l1++d::l2->ft n.1.lo n.1.a.heap.size n.1.a w2:=λn y=>by
   have v:=(b.sv n y).2;exact⟨ag v.1 m.size,λz C w=>(g z (ai w v.1) (by have:=s.off _ t _ (b.mem y);omega)).trans (v.2 z C w)⟩
  have o:=s.ap;rw[<- b.ln,dY,gp,jS,bk]at o;rcases bP.mp f with f|f
  {have j:i∈l1++d::l2:=eF _ f;exact⟨(g _ (aw (b.sv i j).1) (o.2.2 _ (mr f) _ (by simp))).trans (b.sv i j).1,u i j⟩};rcases bF.mp f with rfl|f;{exact⟨F,u d (by simp)⟩};have j:i∈l1++d::l2:=List.mem_append_right _ (cy _ f);exact⟨(g _ (aw (b.sv i j).1) (λe=>o.2.1.1 _ (mr f) e.symm)).trans (b.sv i j).1,u i j⟩
 have:=b.ln;simpa using this
theorem Gj.add(o:zo cols B W0.heap.size fg)(b:Gj W0 W cols fg kv b8 b9 cv vs l N R')(c:ke W w2 W0.heap.size cv vs pZ (bh cols.length R2)):Gj W0 w2 cols fg kv b8 b9 cv pZ l N R2:=by
 have f:∀d,d<W0.heap.size->d<W.heap.size->w2.heap[d]?=W.heap[d]?:=λd t k=>c.old k (λn=>by have:=(b.own.inside n).1;omega);exact⟨b.keep.trans ⟨c.keep.os,c.keep.tape,c.keep.output,c.keep.size,λd g=>f d g.1 (ai g.1 b.keep.size)⟩,c.box b.own b.bo (by decide),c.box b.own b.bc (by decide),c.own,b.sv.on c.keep.size f (λu r=>(o.low _ (b.mem r)).2),b.ln,b.hb,eJ b.kr (λj i=>by
  obtain⟨s,m⟩:=qk b.kr i;exact c.old (b.kr.lt j i).2 (b.own.FM m (by decide)))⟩
end
theorem Gk{B:Nat}{W:ω}(d:KeepsFrom B W w)(k:w.heap.size<=r.heap.size)(j:∀(c:Nat) (b:Obj),w.heap[c]?=σ b->b.isCells=false->r.heap[c]?=σ b):KeepsFrom B W r:=⟨ag d.size k,λc b g i f=>j c b (d.same c b g i f) f⟩
theorem abz{B:Nat}{W:ω}(c:KeepsFrom B W w)(b:δ w.heap.size w r):KeepsFrom B W r:=Gk c b.size (λf g d _=>vA b f g d)
theorem afC{B:Nat}{W:ω}(c:KeepsFrom B W w)(d:w.heap[m]?=σ (ξ v n (0,0))):KeepsFrom B W (w.setCell ⟨m,k,ν⟩ x):=Gk c (by simp[World.setCell]) (λg i b f=>(ay _ _ _ _ (λe=>by subst e;rw[d]at b;cases b;cases f)).trans b)
theorem aj3{B:Nat}{W:ω}(f:KeepsFrom B W w)(g:w.heap[m]?=σ (ξ v n (0,0)))(d:aX (λc=>c<w.heap.size/\c≠m) w r):KeepsFrom B W r:=Gk f d.size (λc j b i=>(d.block c ⟨aw b,λe=>by subst e;rw[g]at b;cases b;cases i⟩).trans b)
section
open Go.Shelf
attribute [local go_sem] kq
set_option linter.unusedSimpArgs false
abbrev Io(x:J4):Value:=.pointer (some (Ad x.p 0))
abbrev E8(fg:List J4):List K4:=fg.map λx=>(x,(0,0,0))
def afE(idx:List Nat):FN:=⟨λv l _ X=>∃a c,v=ψ a idx.length c/\X.ownsRow l 3 1 (ψ a idx.length c) idx.length (idx.map mM),λ_ _ _ _ _ ⟨a,c,h1,h2⟩ hb=>⟨a,c,h1,cq h2 hb⟩⟩
def an9(M:Nat->Prop)(L:List (List aD)):FN:=⟨λv _ _ X=>∃a m c,v=ψ a m c/\ik M X (ψ a m c) L,λ_ _ _ _ _ ⟨a,m,c,h1,h2⟩ hb=>⟨a,m,c,h1,h2.moves hb.size (λb h _=>hb.block b h)⟩⟩
def XA(N S:Nat)(L:List (List aD)):FN:=⟨λv l _ X=>v=.func (.func 155) #[] #[π (σ (Ad l 0)),π (σ (Ad (l+1) 0))]/\∃a m c,FK X l (ψ a m c) S/\N<=l/\∃b vs,N<=b/\gu X b (ψ a m c) vs L,λ_ _ _ _ _ ⟨h1,a,m,c,⟨h2,h3⟩,h4,b,vs,h5,h6⟩ hb=>⟨h1,a,m,c,⟨vA hb _ _ h2,vA hb _ _ h3⟩,h4,b,vs,h5,h6.below hb⟩⟩
def abA(N:Nat)(L:List (List aD)):FN:=⟨λv _ _ X=>∃a m c b vs,v=ψ a m c/\N<=b/\gu X b (ψ a m c) vs L,λ_ _ _ _ _ ⟨a,m,c,b,vs,h1,h2,h3⟩ hb=>⟨a,m,c,b,vs,h1,h2,h3.below hb⟩⟩
theorem abB{i:Type}{b:List (List i)}(d:∀c∈b,0<c.length):b.length<=b.flatten.length:=by
 induction b with
 |nil=>simp
 |cons c l g=>
   have:=d c (dv ..);have:=g (λe f=>d e (cy _ f));simp only[List.length_cons,List.flatten_cons,List.length_append];omega
def Ph(w w':ω)(jD:List br)(fg:List J4)(S:List (List aD))(e:Ending):Prop:=
 ∃ka km kc a m c l R',e=τ (.tuple #[χ #[ψ ka km kc,ψ a m c],ι κ S.length])/\(∀M:Nat->Prop,(∀b,M b->b<w.heap.size)->nN M w' (ψ ka km kc) jD/\iU M w' (ψ a m c) (bh jD.length R'))/\pS jD l S R'/\xV w' l/\l.map (·.1)=fg/\aX (λb=>b<w.heap.size/\∀x∈fg,b≠x.p) w w'
theorem abC{a w0 n:ω}{lo q:Nat}{c5:Int}{cols:List br}{a5 sv e4 wv c6:υ}{yY:List υ}{v:List (List (List aD))}{c:List Nat}{C:List aD->dj}{fg:List J4}(i:sE)(A:w0.heap[q]?=σ (obN a5 sv c5))
 (Nl:ew w0 a5 cols) (Cb:bu w0 1 sv v.length yY) (ce:qj w0 cols yY v) (uH:nG i.seg v) (hN:v.flatten.length<=64) (FG:0<cols.length) (i7:cols.length<=5)
 (V:gw w0 e4 c) (D8:∀al∈c,al<cols.length) (ev:0<c.length) (i9:c.length<=5) (hw:dJ a lo wv (gI cols) C) (np:ft lo a.heap.size a w0) (hF:∀row,gI cols row->∀t,C row=.inl t->rN t) (mQ:∀row∈v.flatten,gI cols row)
 (mL:δ w0.heap.size w0 n) (J5:zo (c.map λal=>cols.getD al default) w0.heap.size n.heap.size fg) (XB:bu n 1 c6 fg.length (fg.map Io)) (Y3:jO (λb=>∃d∈fg,b=d.p) c6) (je:xV n (E8 fg)) (jf:fg.length<=300) :
 Calls prog 92 #[χ #[π (σ ⟨q,0,ν⟩),e4,wv],.agg (OB i).toArray,c6] n λe w'=>Ph n w' (c.map λal=>cols.getD al default) fg (jV C c v.flatten) e:=by
 obtain⟨sa,lL,rfl⟩:=Cb.slice;obtain⟨Hx,ql,rfl⟩:=bu.slice V;obtain⟨va,dq,rfl⟩:=bu.slice XB;have io:=hw;obtain⟨fn,aa,rfl,hE,-⟩:=io;obtain⟨D,Qp⟩:=nm (c.map λal=>cols.getD al default);have Ip:D.length=c.length:=by rw[Qp,aQ]
 rw[<- Qp]at J5 ⊢;have Iq:=ak (λwr (g:δ w0.heap.size w0 wr)=>(show(wr.cell? ⟨q,0,ν⟩=σ a5/\wr.cell? ⟨q,1,ν⟩=σ (ψ sa v.length lL)/\wr.cell? ⟨q,2,ν⟩=σ (ι κ c5))/\wr.heap[q]?=σ (aib a5 sa v.length lL c5)/\ew wr a5 cols/\bu wr 1 (ψ sa v.length lL) v.length yY/\qj wr cols yY v/\gw wr (ψ Hx c.length ql) c/\ft lo a.heap.size a wr from
  ⟨aY ((g.block q (aw A)).trans A),(g.block q (aw A)).trans A,Nl.below g (ae _),bu.below Cb g (ae _),⟨ce.1,λy ap t s r=>by obtain⟨ss,h3,h4⟩:=ce.2 y ap t s r;exact⟨ss,bu.below h3 g (ae _),h4⟩⟩,bu.below V g (ae _),np.below g⟩))
 have i8:=ai (aw A) mL.size;obtain⟨W0,zV⟩:=nm ((((n.alloc (Nd (π (σ ⟨q,0,ν⟩)) Hx c.length ql (.func (.func fn) #[] aa))).alloc (obV i.seg i.pk i.wd i.prune i.push i.bud)).alloc (ξ #[ψ va fg.length dq] 207)).alloc (wG ν 0 0 ν 0 0));have s:=fX n (Nd (π (σ ⟨q,0,ν⟩)) Hx c.length ql (.func (.func fn) #[] aa)) (obV i.seg i.pk i.wd i.prune i.push i.bud);have r:=fX ((n.alloc (Nd (π (σ ⟨q,0,ν⟩)) Hx c.length ql (.func (.func fn) #[] aa))).alloc (obV i.seg i.pk i.wd i.prune i.push i.bud)) (ξ #[ψ va fg.length dq] 207) (wG ν 0 0 ν 0 0);rw[show((n.alloc (Nd (π (σ ⟨q,0,ν⟩)) Hx c.length ql (.func (.func fn) #[] aa))).alloc (obV i.seg i.pk i.wd i.prune i.push i.bud)).heap.size=n.heap.size+2 from by simp,<- zV]at r;have yZ:W0.heap.size=n.heap.size+4:=by rw[zV];simp
 have ia:δ n.heap.size n W0:=s.1.trans (r.1.mono (by omega));have w:δ w0.heap.size w0 W0:=mL.trans (ia.mono mL.size);have d0:zo D w0.heap.size W0.heap.size fg:=⟨J5.work,J5.wf,J5.ap,J5.off,λd m=>by have:=J5.low d m;omega⟩;have c3:∀d∈fg,d.p<n.heap.size:=λd m=>(J5.low d m).2.1;have e0:W0.heap[n.heap.size]?=σ (Nd (π (σ ⟨q,0,ν⟩)) Hx c.length ql (.func (.func fn) #[] aa)):=(r.1.block _ (by omega)).trans s.2.2;have E:W0.heap[n.heap.size+1]?=σ (obV i.seg i.pk i.wd i.prune i.push i.bud):=(r.1.block _ (by omega)).trans s.2.1;have Ir:=ak (λW (g:aX (λb=>b<W0.heap.size/\∀d∈fg,b≠d.p) W0 W)=>(show(W.cell? ⟨n.heap.size,0,ν⟩=σ (π (σ ⟨q,0,ν⟩))/\W.cell? ⟨n.heap.size,1,ν⟩=σ (ψ Hx c.length ql)/\W.cell? ⟨n.heap.size,2,ν⟩=σ (.func (.func fn) #[] aa))/\W.cell? ⟨n.heap.size+1,2,ν⟩=σ (ι κ i.wd)/\W.cell? ⟨n.heap.size+2,0,ν⟩=σ (ψ va fg.length dq)/\W.heap[n.heap.size+3]?=σ (wG ν 0 0 ν 0 0)/\bu W 1 (ψ va fg.length dq) fg.length (fg.map Io)/\δ w0.heap.size w0 W from by
  have bt:∀b,n.heap.size<=b->b<W0.heap.size->W.heap[b]?=W0.heap[b]?:=λb a1 a2=>g.block b ⟨a2,λd m e=>by have:=c3 d m;omega⟩;refine⟨aY ((bt _ (by omega) (by omega)).trans e0),cell0 ((bt _ (by omega) (by omega)).trans E) 2,cell0 ((bt _ (by omega) (by omega)).trans r.2.2) 0,(bt _ (by omega) (by omega)).trans r.2.1,bu.moves XB Y3 (ag ia.size g.size) (λb a1 a2=>(g.block b ⟨by omega,λd m e=>a2 ⟨d,m,e⟩⟩).trans (ia.block b a1)),⟨g.os.trans w.os,g.tape.trans w.tape,g.output.trans w.output,ag w.size g.size,λb j=>(g.block b ⟨ai j w.size,λd m e=>by have:=(J5.low d m).1;omega⟩).trans (w.block b j)⟩⟩))
 have f6:=ak c3;have f5:Hid (∀d∈fg,d.a.heap.size<=n.heap.size):=ak (λd m=>(J5.low d m).2.2);have d1:Hid (xV W0 (E8 fg)):=ak λd m=>⟨vA ia _ _ (je d m).1,(je d m).2.below ia⟩;have QH:=d0;have OG:=ak D8;have gm:=hw;have fs:=ak hF;have f4:=ak mQ;have c8:=uH;have Qw:=ak zV;have ge:=ak Qp;have d2:=ak Ip;have qg:=ia;have vW:=ak yZ;have DI:=E0 (k:=fn) (caps:=aa) (Iq.J W0 w).2.1 (Iq.J W0 w).2.2.1 (Iq.J W0 w).2.2.2.2.2.1 D8 (by omega);rw[<- Qp]at DI;obtain⟨⟨x0,x1,x2⟩,-⟩:=Ir.J W0 (aX.refl _ _);have cL:n.heap.size+3<W0.heap.size:=by omega
 clear A Nl Cb ce uH V D8 hw np hF mQ J5 XB Y3 je zV s r yZ ia d0 c3 e0 E Qp Ip w;unfold OB;refine uG func92 rfl ?_;simp only[ntmps92,List.size_toArray,List.length_cons,List.length_nil,Nat.reduceAdd,Nat.reduceSub,Array.replicate_succ,Array.replicate_zero,List.push_toArray,List.append_toArray,List.nil_append,List.cons_append];go_wp2_with fail;rw[<- Qw.J];refine DI.mono ?_;rintro _ w1 ⟨kv,rfl,c2,w⟩;obtain⟨U,T,rfl,-,-⟩:=cu c2;have fJ:=c2;have gq:=w;clear c2 w x0 x1 x2 DI;go_wp2_with fail;refine(xo (by omega)).mono ?_;rintro _ w2 ⟨bv,rfl,nU,cG⟩;have eH:=nU.row;rw[bB]at eH;obtain⟨ca,K,rfl,Xh,-⟩:=cu eH;obtain⟨I,rfl,-⟩:=Xh ev;have X:=gq.trans (cG.mono gq.size);have d3:=cq fJ cG;obtain⟨W1,oH⟩:=nm ((w2.alloc (wG U c.length T (σ ⟨I,0,ν⟩) c.length K)).alloc (ξ #[ι κ 0] 3));obtain⟨fI,mq,yK⟩:=fX w2 (wG U c.length T (σ ⟨I,0,ν⟩) c.length K) (ξ #[ι κ 0] 3);rw[<- oH]at fI mq yK;have nB:=X.trans (fI.mono X.size);have eg:Gj W0 W1 D fg (ψ U c.length T) w2.heap.size (w2.heap.size+1) (ψ (σ ⟨I,0,ν⟩) c.length K) (List.replicate c.length sL) (E8 fg) 0 []:=(by have Ip:=d2.J;refine⟨⟨nB.os,nB.tape,nB.output,nB.size,λb j=>nB.block b j.1⟩,yK,mq,?_,λd m=>⟨vA nB _ _ (d1.J d m).1,(d1.J d m).2.below nB⟩,by simp[E8,Function.comp_def],⟨X.size,ag X.size (bE _)⟩,?_⟩;{rw[Ip];exact(nU.below fI).lower gq.size};rw[Ip];exact cq d3 fI);obtain⟨⟨y0,y1,y2⟩,-,-,-,-,d4⟩:=Ir.J w2 ⟨X.os,X.tape,X.output,X.size,λb j=>X.block b j.1⟩;obtain⟨⟨-,t1,-⟩,-⟩:=Iq.J w2 d4;have i3:n.heap.size+3<w2.heap.size:=ai cL X.size;have Kl:q<w2.heap.size:=by omega
 have iM:n.heap.size<w2.heap.size:=by omega
 have ga:=eg;have B6:=ak oH;clear eH Xh nU cG X d3 fI mq yK nB eg oH d4;go_wp2_with fail;rw[<- B6.J];clear y0 y1 y2 t1;have DR:prog.follows .mixedOrders=true:=by kernel_rfl
 have i5:v.length<=64:=ag (abB (λam Q=>by obtain⟨y,hi⟩:=dz Q;exact(c8 y am hi).1)) hN;refine Ta [11,26,27,28,29,30,31,32,33,34,61] (λus ds W=>∃(y:Nat) (e5 e6 e7 e8 e9 fa fb fc fd fe:υ),us=[e5,ι κ y,e6,e7,e8,e9,fa,fb,fc,fd,fe]/\y<=v.length/\Hid (Marks W0.heap.size W ds)/\∃vs l R',Hid (Gj W0 W D fg (ψ U c.length T) w2.heap.size (w2.heap.size+1) (ψ (σ ⟨I,0,ν⟩) c.length K) vs l (jV C c (v.take y).flatten).length R')/\Hid (pS D l (jV C c (v.take y).flatten) R')) (λa=>v.length - (intOf (a.tmps.getD 26 undef)).toNat) ?start ?round;case start=>exact⟨0,_,_,_,_,_,_,_,_,_,_,rfl,aK _,ak (Marks.nil _ _),_,E8 fg,[],ga,ak (pS.new (λd m=>by obtain⟨aq,-,rfl⟩:=cE.mp m;rfl))⟩
 case round=>
  rintro us ds W hl ⟨y,e5,e6,e7,e8,e9,fa,fb,fc,fd,fe,rfl,hi,b4,vs,l,R',Y,aC⟩;simp only[Xz,Xy,List.zip_cons_cons,List.zip_nil_right,List.setIfInBounds_toArray,List.set_cons_succ,List.set_cons_zero];by_cases uX:y<v.length
  .have ju:(y:Int)<v.length:=(by omega);obtain⟨t,mR⟩:∃t,v[y]?=σ t:=⟨_,af uX⟩;have k:=Y.J;obtain⟨-,x3,-,-,-,lM⟩:=Ir.J W k.keep;obtain⟨-,-,-,XB,c4,-⟩:=Iq.J W lM;obtain⟨ap,hu⟩:∃ap,yY[y]?=σ ap:=⟨_,af (by rw[c4.1];exact uX)⟩;obtain⟨sg,so,Hq,he,-,-,m⟩:=XB.at (by omega);cases he;have s0:=m y ap hu;obtain⟨ss,Jy,je⟩:=c4.2 y ap t hu mR;have gB:ss.length<=1000:=(by have:=je.1;rw[aQ]at this;omega);obtain⟨ua,un,nt,rfl⟩:∃ua un nt,ap=ψ ua un nt:=(by obtain⟨a1,a2,a3⟩:=bu.slice Jy;exact⟨_,_,_,a3⟩);have dx:=ak (λf (g:δ W.heap.size W f)=>CK (w:=f) (bu.below Jy g (ae _)) je gB);have dN:=ak (λf (g:δ W.heap.size W f)=>(g.cell (p:=⟨n.heap.size+1,2,ν⟩) (show n.heap.size+1<W.heap.size from ai (show n.heap.size+1<W0.heap.size by omega) k.keep.size)).trans x3);have UL:=ak mR;clear k lM XB c4 m Jy je hu mR x3;go_wp2_with fail;refine q6 (n:=5) (m:=0) (z:=64) [.is (ψ ua un nt),abA W.heap.size (bh cols.length t),.is (π (σ ⟨n.heap.size+1,2,ν⟩)),.is (ι κ i.wd),XA W.heap.size i.wd (bh cols.length t)] DR rfl (by kernel_rfl) ⟨⟨⟨⟨⟨trivial,?_⟩,?s1⟩,?_⟩,?_⟩,?s4⟩ ?fin;(case s1=>refineλρ lo hi f j ⟨hf,(E:ρ (.tmp 30)=_),_⟩=>eT rfl hf call124 (by simp[E]) (dx.J f ((aH (ah _ _)).trans j)) ?_;rintro _ X1 ⟨be,jn,rfl,ho,w⟩;obtain⟨a1,c1,rfl,-,-⟩:=cu ho.row;exact⟨_,rfl,⟨_,_,_,_,_,rfl,j.size,ho⟩,w⟩);(case s4=>refineλρ lo hi f j ⟨hf,⟨a1,m1,c1,b1,xm,(E:ρ (.tmp 31)=_),w,JW⟩,(e2:ρ (.tmp 33)=_),_⟩=>eT rfl hf call125 (by simp[E,e2]) (xl a1 m1 c1 i.wd f) ?_;rintro _ X1 ⟨rfl,rfl⟩;obtain⟨Y5,GM,Fu⟩:=fX f (ξ #[ψ a1 m1 c1] 152) (ξ #[ι κ i.wd] 3);exact⟨_,rfl,⟨rfl,a1,m1,c1,⟨Fu,GM⟩,j.size,b1,xm,w,JW.below Y5⟩,Y5⟩);case fin=>
    intro val Zd ij f j M _;obtain⟨v4,ba,bm,iQ,c7,jF,bb,i4,Ht,cS⟩:=(M 4 (by decide)).1;clear M;generalize Zd 4=q4 at *;simp[mY,gO,Act.put,v4];refine qo (by kernel_rfl) ?_ _;obtain⟨S0,yq⟩:=nm (jV C c (v.take y).flatten);rw[<- yq]at Y aC;obtain⟨ax,bo⟩:=nm (λb=>b<W.heap.size\/f.heap.size<=b:Nat->Prop);have el:=Y.J.below j;have d9:ik ax f (ψ ba bm iQ) (bh cols.length t):=MD cS (λx hk=>by rw[bo];have:=cS.inside hk;omega);have em:∀b,kd (ψ (σ ⟨I,0,ν⟩) c.length K) vs b->ax b:=λb hs=>by rw[bo];exact .inl (Y.J.own.inside hs).2
    have co:Marks W0.heap.size f ds:=b4.J.move (λo _ he=>vA j o _ he);have eb:=co.lt;have eZ:W0.heap.size<=f.heap.size:=ag Y.J.keep.size j.size;have yu:0<t.length/\t.length<=16:=(by have:=c8 y t UL.J;have:=i.s16;omega)
    have cb:=el;have fo:=d9;have gf:=ak em;have b5:=co;have b2:=ak eb;have cd:=ak eZ;have f8:=c7;have b3:=ak bo;have a4:=ak yq;have Pj:=j;clear el d9 em co eb eZ c7 bo yq j cS Ht v4 s0 dx dN;go_wp2_with fail;refine wC (n:=9).1 (Gf (a1:=?a1) (by decide) rfl call155 (CN (q:=q4) (q2:=q4+1) (S:=i.wd) (N:=t.length) (bv:=ψ ba bm iQ) (L:=bh cols.length t) (by have:=i.w1;omega) (by have:=i.w16;omega) (λam Q=>ep Q) (by omega) (by intro g;have:=bB cols.length t;rw[g]at this;simp at this;omega) (by rw[bB];omega))
     (λx Wx=>∃vs l R',Gj W0 Wx D fg (ψ U c.length T) w2.heap.size (w2.heap.size+1) (ψ (σ ⟨I,0,ν⟩) c.length K) vs l (S0++jV C c (t.take x)).length R'/\pS D l (S0++jV C c (t.take x)) R'/\FK Wx q4 (ψ ba bm iQ) i.wd/\ik ax Wx (ψ ba bm iQ) (bh cols.length t)/\(∀b,kd (ψ (σ ⟨I,0,ν⟩) c.length K) vs b->ax b)/\Marks W0.heap.size Wx ds/\f.heap.size<=Wx.heap.size) (λ_ _=>False)
     (λx Wx g=>by obtain⟨_,_,_,-,-,h3,h4,-⟩:=g;exact⟨cell0 h3.1 0,cell0 h3.2 0,h4.batch⟩) ?hI (λ_ _ _ g _=>g) (λx be iv fi B g O=>g.turn O) ⟨vs,l,R',by simpa[jV]using cb,by simpa[jV]using aC.J,f8,fo,gf.J,b5,ae _⟩ ?assign ?body ?done (λ_ _ _ _ g=>g.elim))
    (case hI=>rintro x fi B ⟨vs,l,R',s,r,h3,h4,h5,h6,h7⟩ O;exact⟨vs,l,R',s.turn QH O cd.J,r,⟨O.eW _ _ h3.1 (.inr rfl),O.eW _ _ h3.2 (.inr rfl)⟩,h4.turn O,h5,h6.turn O b2.J,ag h7 O.size⟩);(case assign=>intro l be Wx iF hK;gi_wp2;exact hK);(case done=>rintro fk x Wd hD D7 ⟨pZ,l',R2,s,r,-,-,-,h6,-⟩ BG;rw[aI D7]at s r;have YV:=s;have V5:=r;have Wm:=h6.cons (ag cd.J hD) BG (λam Q o u=>ai (b2.J am Q o u) hD);have db:Hid (jV C c (v.take (y+1)).flatten=S0++jV C c t):=ak (by rw[de,UL.J,a4.J];simp[Da]);clear s r h6 BG D7;go_wp2_with fail;refine⟨⟨[ψ ua un nt,ι κ ((y+1:Nat):Int),.bool true,π (σ ⟨sg,so+y,ν⟩),ψ ua un nt,val 0,val 1,val 2,val 3,.func (.func 155) #[] #[π (σ ⟨q4,0,ν⟩),π (σ ⟨q4+1,0,ν⟩)],ι κ ((y+1:Nat):Int)],{ target:=.collected fk,args:=#[] }::ds,rfl,?eq,y+1,_,_,_,_,_,_,_,_,_,_,rfl,uX,Wm,pZ,l',R2,by rw[db.J];exact YV,by rw[db.J];exact V5⟩,?_⟩;(case eq=>simp only[Xy,List.zip_cons_cons,List.zip_nil_right,List.setIfInBounds_toArray,List.set_cons_succ,List.set_cons_zero];rfl);show v.length - (intOf (ι κ ((y:Int)+1))).toNat<v.length - (intOf (ι κ (y:Int))).toNat;simp[intOf];omega);case body=>
     rintro rl x be Wp Wr ⟨vs,l,R',a9,ea,cr,ck,cN,a8,en⟩ A D7 OC;obtain⟨e3,G⟩:=nm (min (x+i.wd) t.length);rw[<- G,tM]at OC;obtain⟨z,uH⟩:=nm ((t.drop x).take (e3 - x));rw[<- uH]at OC;have si:=i.w1;have iN:=i.w16;have O5:z.length=e3 - x:=(by rw[uH,bV,bW];omega);have gr:0<z.length/\z.length<=16:=(by omega);obtain⟨P,hM⟩:=nm (λb=>kd (ψ (σ ⟨I,0,ν⟩) c.length K) vs b\/(∃d∈fg,b=d.p)\/b=w2.heap.size+1:Nat->Prop);have g4:w2.heap.size+1<W.heap.size:=aw Y.J.bc;have iS:W0.heap.size<=W.heap.size:=Y.J.keep.size;have vz:∀d∈fg,d.p<W0.heap.size:=λd m=>(QH.low d m).2.1;have cf:∀d,P d->d<Wp.heap.size:=λd m=>by
      rw[hM]at m;rcases m with m|⟨aq,hy,rfl⟩|rfl
      . exact(a9.own.inside m).2
      . exact ai (vz aq hy) a9.keep.size
      . exact aw a9.bc
     have cn:∀d,P d->ax d:=λd m=>by
      rw[hM]at m;rcases m with m|⟨aq,hy,rfl⟩|rfl
      . exact cN d m
      . rw[b3.J];have:=vz aq hy;exact .inl (by omega)
      . rw[b3.J];exact .inl g4
     have M:=OC P cf (ck.sub cn);have k:=a9.turn QH A cd.J;have hP:FK Wr q4 (ψ ba bm iQ) i.wd:=⟨A.eW _ _ cr.1 (.inr rfl),A.eW _ _ cr.2 (.inr rfl)⟩;have hB:=ck.turn A;have a6:=a8.turn A b2.J;have ee:∀d,P d->d<Wr.heap.size:=λd m=>ai (cf d m) A.size;have dS:Hid (f.heap.size<=Wr.heap.size):=ak (ag en A.size);clear a9 cr ck a8 A OC cf en;obtain⟨ff,xW,he⟩:=M.batch.slice;rw[bB]at he;subst he;have bw:∀o∈z,gI cols o:=λo u=>f4.J o (by rw[uH]at u;exact List.mem_flatten.mpr ⟨t,aA UL.J,iy (eG u)⟩);obtain⟨F,c0⟩:=nm ((List.range z.length).filter λo=>pQ (C (rowOf (bh cols.length z) o)));have cg:=ak (λf (g:δ Wr.heap.size Wr f)=>Ir.J f (k.below g).keep);have hD:=aH (ah Wr.heap.size Wr);have b7:=ak (λf (g:δ Wr.heap.size Wr f)=>SC (pv:=π (σ ⟨q,0,ν⟩)) (shv:=ψ Hx c.length ql) ⟨_,rfl⟩ ⟨_,_,_,rfl⟩ gm (Iq.J f (cg.J f g).2.2.2.2.2).2.2.2.2.2.2 fs.J (M.batch.below g (ae _)) (gA (R:=z) FG) (λam Q=>by rw[ep Q,aQ]) (by rw[aQ];exact gr.1) (by rw[aQ];omega) (λo u=>by rw[aQ]at u;rw[nW (n:=cols.length) (row:=z[o]) (af u) (bw _ (cF _)).1];exact bw _ (cF _)));simp only[List.length_map]at b7;rw[<- c0]at b7;have dn:=ak (λf (g:δ Wr.heap.size Wr f)=>Pg (pv:=π (σ ⟨q,0,ν⟩)) (k:=fn) (caps:=aa) ⟨_,rfl⟩ (M.batch.below g (ae _)) (Iq.J f (cg.J f g).2.2.2.2.2).2.2.2.2.2.1 (λal hs=>by rw[bB];exact OG.J al hs) (by omega));rw[SZ OG.J]at dn;have fZ:=ak cn;have gl:=M;have Sl:=k;have f7:=hP;have fp:=hB;have f3:=a6;have f2:=ak ee;have BI:=ak bw;have bi:=ak c0;have g5:=ak (And.intro uH (And.intro G O5));have fE:=ak D7;have g6:=ea;have GI:=ak cN;have bl:=ak hM;have Ww:=ak vz;clear k hP hB a6 ee bw c0 uH G O5 D7 ea cN M hM vz cn;gi_wp2;refine sN DR (by kernel_rfl) (λ⟨_,_,g⟩=>g) rfl rfl ?_;refine UY (n:=6) (m:=2) (z:=64) [.is (χ #[π (σ ⟨q,0,ν⟩),ψ Hx c.length ql,.func (.func fn) #[] aa]),.is (ψ ff cols.length xW),afE F,.is (χ #[π (σ ⟨q,0,ν⟩),ψ Hx c.length ql,.func (.func fn) #[] aa]),.is (ψ ff cols.length xW),an9 P (bh c.length (z.map (qp c)))] rfl (by kernel_rfl) ⟨⟨⟨⟨⟨⟨trivial,?_⟩,?_⟩,?s2⟩,?_⟩,?_⟩,?s5⟩ ?fin;(case s2=>refineλρ lo hi f j ⟨hf,(E:ρ (.tmp 36)=_),(e2:ρ (.tmp 37)=_),_⟩=>eT rfl hf call126 (by simp[E,e2]) (b7.J f (hD.trans j)) ?_;rintro _ X1 ⟨be,rfl,ho,w⟩;obtain⟨a1,c1,rfl,-,-⟩:=cu ho;exact⟨_,rfl,⟨_,_,rfl,ho⟩,w⟩);(case s5=>refineλρ lo hi f j ⟨hf,(E:ρ (.tmp 39)=_),(e2:ρ (.tmp 40)=_),_⟩=>eT rfl hf call127 (by simp[E,e2]) (dn.J f (hD.trans j)) ?_;rintro _ X1 ⟨be,rfl,ho,w⟩;have KN:=hD.trans j;have h9:=ho P (λd m=>ai (f2.J d m) KN.size) (gl.moves KN.size (λb g _=>KN.block b g));obtain⟨a1,c1,rfl⟩:=h9.batch.slice;exact⟨_,rfl,⟨_,_,_,rfl,h9⟩,w⟩);case fin=>
      intro val Zd ij X1 j M _;obtain⟨⟨ra,rc,v2,et⟩,yo,-,-⟩:=M 2 (by decide);obtain⟨⟨ya,ym,yc,v5,eQ⟩,-,-,-⟩:=M 5 (by decide);clear M;generalize Zd 2=q2 at *;simp[mY,gO,Act.put,v2,v5];have KN:=hD.trans j;have uh:=Sl.below KN;obtain⟨N,bY⟩:=nm ((S0++jV C c (t.take x)).length);rw[<- bY]at uh;have i6:N<=128:=by
       have s:=vY C c (t.take x);have r:=vY C c (v.take y).flatten;have h3:(v.take y).flatten.length<=v.flatten.length:=by
        conv=>rhs;rw[<- gV y v]
        rw[jc,az];omega
       rw[bV]at s;rw[bY,az,a4.J];omega
      have LG:F.length<=z.length:=(by rw[bi.J];have:=fH (λo=>pQ (C (rowOf (bh cols.length z) o))) (List.range z.length);rw[cV]at this;exact this);have r8:=uh.count QH (N+F.length);have t0:=cell0 uh.bc 0;simp only[List.getElem?_toArray,List.getElem?_cons_zero]at t0;have tz:=eR uh.bc 0;have tl:=aw uh.bc;have KE:IntKind.i64.wrap ((N:Int)+F.length)=(N:Int)+F.length:=(by rw[jC];omega);obtain⟨-,-,t5,-⟩:=Ir.J _ r8.keep;have it:(X1.setCell ⟨w2.heap.size+1,0,ν⟩ (ι κ ((N:Int)+F.length))).cell? ⟨n.heap.size+1+1,0,ν⟩=σ (ψ va fg.length dq):=(by have:=t5;push_cast at this;exact this);have JB:=r8;have YV:=uh;have ci:=et;have dT:=eQ;have g7:=KN;have Z9:=ak bY;clear r8 uh et eQ KN t5 bY j;refine nu (i:=6) (by kernel_rfl) rfl (by rfl) (fj (w':=X1) (by go_simp;with_reducible rfl) ?_);simp only[Act.put];refine nu (i:=7) (by kernel_rfl) rfl (by rfl) (fj (w':=X1) (by go_simp;with_reducible rfl) ?_);simp only[Act.put];refine qo (by kernel_rfl) ?_ _;simp;gi_wp2;obtain⟨X2,an⟩:=nm (X1.setCell ⟨w2.heap.size+1,0,ν⟩ (ι κ ((N:Int)+F.length)));rw[<- an];obtain⟨ab,hg⟩:=nm (λo=>(z.map (qp c)).getD o []:Nat->List aD);obtain⟨S1,FA⟩:=nm ((S0++jV C c (t.take x))++jV C c z);have r8:Gj W0 X2 D fg (ψ U c.length T) w2.heap.size (w2.heap.size+1) (ψ (σ ⟨I,0,ν⟩) c.length K) vs l (N+F.length) R':=(by rw[an];have:=JB;push_cast at this;exact this);have YR:F.map ab=jV C c z:=(by rw[hg,bi.J];exact Pf C (λo u=>(BI.J o u).1));have iT:S1.length<=200:=(by have s:=vY C c z;rw[FA,az,<- Z9.J];omega);have d5:P (w2.heap.size+1):=(by rw[bl.J];exact .inr (.inr rfl));have Ag:∀b,b≠w2.heap.size+1->X2.heap[b]?=X1.heap[b]?:=λb j=>by rw[an];exact ay _ _ _ _ j
      have kQ:X1.heap.size<=X2.heap.size:=(by rw[an];simp[World.setCell]);have w:=g7;have d6:ik P X2 (ψ ya ym yc) (bh c.length (z.map (qp c))):=dT.moves kQ (λb _ G=>Ag b (λe=>G (by rw[e];exact d5)));have i2:Wr.heap.size<=q2:=yo;have d7:X2.ownsRow Wr.heap.size 3 1 (ψ ra F.length rc) F.length (F.map mM):=eB (eJ ci (λq hq=>Ag q (by have:=(ci.lt q hq).1;have:=Y.J.keep.size;have:=Sl.keep.size;have:=aw Sl.bc;omega))) yo;have LH:aX (λb=>b<Wr.heap.size/\¬P b) Wr X2:=(by refine⟨?_,?_,?_,ag w.size kQ,λb j=>(Ag b (λe=>j.2 (by rw[e];exact d5))).trans (w.block b j.1)⟩<;>rw[an]<;>first|exact w.os|exact w.tape|exact w.output);have ao:KeepsFrom 0 Wr X2:=(by rw[an];exact afC (abz ⟨ae _,λ_ _ _ g _=>g⟩ w) YV.bc);have g8:=ak r8;have uA:Hid (pS D [] S1 ((S0++jV C c (t.take x))++F.map ab)):=ak (by rw[YR,FA];rfl);have g9:=d6;have gs:=d7;have Jh:=LH;have fw:=ao;have HG:=ak hg;have dl:=ak FA;have fv:Hid (∀o∈F,o<z.length):=ak (λo u=>by rw[bi.J]at u;exact dB.mp (eA.mp u).1);clear r8 YR Ag kQ w d6 d7 LH ao hg FA an t0 tz tl KE it JB YV ci dT;gi_loopw [48,13] (λjv rv wr=>∃(ac:Nat) (ra:Option Addr) (rc:Nat) (H:List Nat) (l1 l2:List K4) (Rj:List (List aD)),ac<=fg.length/\jv=ι κ ac/\rv=ψ ra H.length rc/\l1.length=ac/\H.length<=z.length/\Hid (Gj W0 wr D fg (ψ U c.length T) w2.heap.size (w2.heap.size+1) (ψ (σ ⟨I,0,ν⟩) c.length K) vs (l1++l2) (N+F.length) R')/\Hid (pS D l1 S1 (Rj++H.map ab))/\Hid (pS D l2 Rj R')/\Hid (wr.ownsRow Wr.heap.size 3 1 (ψ ra H.length rc) H.length (H.map mM))/\Hid (∀o∈H,o<z.length)/\Hid (ik P wr (ψ ya ym yc) (bh c.length (z.map (qp c))))/\Hid (aX (λb=>b<Wr.heap.size/\¬P b) Wr wr)/\Hid (KeepsFrom 0 Wr wr)) (λjv _ _=>fg.length - (intOf jv).toNat);(case atStart=>exact⟨0,ra,rc,F,[],l,_,aK _,rfl,rfl,rfl,LG,g8,uA,g6,gs,fv,g9,Jh,fw⟩);case round=>
       obtain⟨ac,ra,rc,H,l1,l2,Rj,hj,rfl,rfl,EO,i0,a0,bg,c9,b6,ar,cc,dg,dd⟩:=hrel;by_cases RE:ac<fg.length
       .have i1:(ac:Int)<fg.length:=(by omega);have k:=a0.J;obtain⟨d,l3,rfl⟩:∃d l3,l2=d::l3:=by
         cases l2 with
         |nil=>have:=k.ln;rw[bQ]at this;rw[<- this,aQ]at RE;omega
         |cons d l3=>exact⟨d,l3,rfl⟩
        have bc:d.1∈fg:=k.mem (by simp);have ey:fg[ac]?=σ d.1:=(by rw[<- k.ln,<- EO];simp);obtain⟨-,-,-,-,XB,-⟩:=Ir.J wr k.keep;obtain⟨vg,vo,KC,he,-,-,m⟩:=XB.at (by omega);cases he;have s0:=m ac (Io d.1) (by rw[aV,ey];rfl);obtain⟨R1,Cq,Au,ex⟩:=c9.J;have d8:Rj.length<=200:=(by have:=bg.J.len;rw[az]at this;omega)
        have Ik:=Cq.fit d8;have Cb:=k.sv d (by simp);have cl:=OJ (QH.work _ bc) Cb.2 (λrow u t hc=>pR u d.1.e (QH.wf _ bc).1 (QH.wf _ bc).2 hc) Cb.1 cc.J.batch (bu.eY b6.J) (λo u am Q=>by rw[ep Q,aQ];exact ar.J o u) (by omega) (λo u=>by
         have ZR:=ar.J o u;have D4:o<(z.map (qp c)).length:=by rw[aQ];exact ZR
         have mQ:=afA (BI.J _ (cF ZR)) OG.J;rw[<- ge.J]at mQ;rw[nW (n:=c.length) (row:=(z.map (qp c))[o]) (af D4) (by simp[qp])];simpa using mQ) (λh0=>⟨by have:=(Ik h0).1;omega,(Ik h0).2⟩)
        have Mj:=aby (m:=c.length) (sch:=z.map (qp c)) (idx:=H) (λrow=>cU D row d.1.e) d.2 (λo u=>by obtain⟨aq,-,rfl⟩:=cE.mp u;simp[qp]) (λo u=>by rw[aQ];exact ar.J o u);obtain⟨Kd,cm⟩:=nm (kZ (λo=>cU D (rowOf (bh c.length (z.map (qp c))) o) d.1.e) H d.2);rw[<- cm]at cl Mj;have er:(∀o∈Kd.1,o∈H)/\Kd.1.length<=H.length:=(by rw[cm];exact El)
        have LM:=CallsIn.inRound rl (jI (n:=6).2 cl);have gt:Hid (pS D (l1++[(d.1,Kd.2)]) S1 (R1++Kd.1.map ab)):=ak (by
         have h9:=Cq.keep (H.map ab);rw[HG.J]at h9 ⊢;rw[Mj]at h9;have h8:=bg.J;rw[HG.J]at h8;exact h8.snoc (x:=(d.1,Kd.2)) h9 (by simp only[List.length_append,List.length_map];omega))
        have gv:=ex;have yl:=ak er;have gn:=ak bc;clear k ey XB m Cq Au ex d8 Ik Cb cl Mj cm er bc;gi_wp2_with (first|((first|refine⟨trivial,(λg=>nomatch g),?_⟩|refine⟨trivial,?_⟩);gi_at_call 128;(with_reducible refine lW LM ?_);rintro e' w4 ⟨jl,rfl,es,im,wF⟩;obtain⟨ip,ir,rfl,-,-⟩:=cu es));have a8:P d.1.p:=(by rw[bl.J];exact .inr (.inl ⟨d.1,gn.J,rfl⟩));have QD:=dg.J;refine⟨⟨ac+1,ip,ir,Kd.1,l1++[(d.1,Kd.2)],l3,R1,RE,by go_num,rfl,by simp[EO],by have:=yl.J.2;omega,ak (by simpa using a0.J.kept QH im wF),gt,gv,ak (eB es QD.size),ak (λo u=>ar.J o (yl.J.1 o u)),ak (cc.J.moves wF.size (λb s r=>wF.block b ⟨s,λe=>r (by rw[e];exact a8)⟩)),ak (QD.trans ⟨wF.os,wF.tape,wF.output,wF.size,λb j=>wF.block b ⟨ai j.1 QD.size,λe=>j.2 (by rw[e];exact a8)⟩⟩),ak (aj3 dd.J (a0.J.sv d (by simp)).1 wF)⟩,by simp[intOf];omega⟩
       obtain rfl:ac=fg.length:=(by omega);have k:=a0.J;obtain rfl:l2=[]:=(by have:=bn List.length k.ln;simp only[List.length_map,List.length_append]at this;exact gP (by omega))
       have U0:R'=Rj:=c9.J;have QD:=dg.J;have Ip:=d2.J;obtain⟨u0,u1⟩:=aR k.bo;have QG:=aw k.bo;have KO:=E5 (kv:=ψ U c.length T) (base:=W0.heap.size) (n:=c.length) (L:=bh D.length R') (B:=bh c.length (z.map (qp c))) (rows:=H) k.own (by rw[bB];exact Ip) (bB _ _) ev (by omega) (cc.J.sub (λb j=>by rw[bl.J];exact .inl j)) (bu.eY b6.J) (λa1 n1 c1 M G=>by
        cases M
        rcases b6.J.2 with⟨e,-⟩|⟨q',cp,cur,e,B3,-⟩
        . cases e
        . cases e
          have:=(Sl.own.inside G).2;simp at this;omega) (λo u am Q=>by rw[ep Q,aQ];exact ar.J o u) (λam Q=>by
        rw[ep Q];have s:=bg.J.len;rw[az,<- U0]at s;omega) (by omega) (ag Sl.keep.size QD.size) ⟨_,_,_,rfl⟩
       rw[Ie (λo u=>by rw[aQ];exact ar.J o u),Ip,uF]at KO;have QA:=CallsIn.inRound rl (jI (n:=6).2 KO);clear k KO;gi_wp2_with (first|((first|refine⟨trivial,(λg=>nomatch g),?_⟩|refine⟨trivial,?_⟩);gi_at_call 129;(with_reducible refine lW QA ?_);rintro e' w5 ⟨rfl,pZ,V⟩));have k:=a0.J;rw[bQ]at k;obtain⟨uH,G,O5⟩:=g5.J;have D7:=fE.J;have gz:ke wr w5 W0.heap.size (ψ (σ ⟨I,0,ν⟩) c.length K) vs pZ (bh D.length (R'++H.map ab)):=(by rw[Ip,HG.J];exact V);have ii:=k.add QH gz;have ao:=Gk dd.J V.keep.size (λx i hk ho=>(V.keeps (B:=0) k.own).same x i (aK _) hk ho);have ed:S0++jV C c (t.take (x+i.wd))=S1:=(by rw[dl.J,cj,<- Da];congr 2;rw[vy,uH,G];congr 1;by_cases r:x+i.wd<=t.length;{rw[fA r,mJ]};rw[mH (by omega),aI (by rw[bW];omega),aI (by rw[bW];exact ae _)]);have ic:N+F.length=S1.length:=(by have s:=bn List.length (Pf (sh:=c) C (λo u=>(BI.J o u).1));rw[<- bi.J,aQ]at s;rw[dl.J,az,<- Z9.J,s])
       have nM:∀(b:Nat) (cs:Array υ) (O:TypeId),Wr.heap[b]?=σ (ξ cs O (0,0))->(O≠230/\O≠229)->W.heap.size<=b->w5.heap[b]?=σ (ξ cs O (0,0)):=λb cs O s r h3=>V.box k.own ((QD.block b ⟨aw s,λG=>by
        rw[bl.J]at G;rcases G with G|⟨aq,hy,rfl⟩|rfl
        . exact Sl.own.FM s r G
        . have:=Ww.J aq hy;omega
        . omega⟩).trans s) r
       have hP:=f7;refine⟨⟨ao.size,λx i _=>ao.same x i (aK _)⟩,pZ,l1,R'++H.map ab,by rw[ed,<- ic];exact ii,by rw[ed];have:=bg.J;rw[<- U0]at this;exact this,⟨nM _ _ _ hP.1 (by decide) (by omega),nM _ _ _ hP.2 (by decide) (by omega)⟩,(fp.moves QD.size (λb s r=>QD.block b ⟨s,λG=>r (fZ.J b G)⟩)).moves V.keep.size (λb s r=>V.old s (λhn=>r (GI.J b hn))),λb hn=>?_,f3.from (aK _) ao,ag dS.J ao.size⟩;rcases V.US hn with r|r
       {exact GI.J b r};rw[b3.J];exact .inr (ag dS.J (ag QD.size r))
     all_goals refineλρ lo hi f j ⟨(E:ρ _=_),_⟩=>fj (w':=f) ?_ ⟨rfl,ah _ _⟩;obtain⟨⟨y0,y1,y2⟩,-⟩:=cg.J f (hD.trans j);go_simp
   all_goals refineλρ lo hi f j ⟨(E:ρ _=_),_⟩=>fj (w':=f) ?_ ⟨rfl,ah _ _⟩;have x3:=dN.J f ((aH (ah _ _)).trans j);go_simp
  obtain rfl:y=v.length:=by omega
  have k:=Y.J.below (aH (ah W.heap.size W));have a6:Marks W0.heap.size W.drew ds:=b4.J;rw[eV]at k aC;obtain⟨S0,yq⟩:=nm (jV C c v.flatten);rw[<- yq]at k aC;have a4:=ak yq;clear Y b4 yq;go_wp2_with fail;refine rP (S:=λf=>(f.cell? ⟨w2.heap.size,0,ν⟩=σ (ψ U c.length T)/\f.cell? ⟨w2.heap.size,1,ν⟩=σ (ψ (σ ⟨I,0,ν⟩) c.length K))/\f.cell? ⟨w2.heap.size+1,0,ν⟩=σ (ι κ S0.length)) DR ?_;generalize W.drew=f at *;obtain⟨t0,t1⟩:=aR k.bo;have t2:=cell0 k.bc 0;simp only[List.getElem?_toArray,List.getElem?_cons_zero]at t2;have hS:=And.intro (And.intro t0 t1) t2;obtain⟨-,-,-,r6,-⟩:=Ir.J f k.keep;have n8:w2.heap.size≠n.heap.size+1+1+1/\w2.heap.size+1≠n.heap.size+1+1+1:=by omega
  have f0:f.cell? ⟨n.heap.size+1+1+1,0,ν⟩=_:=(aR r6).1;have f1:f.cell? ⟨n.heap.size+1+1+1,1,ν⟩=_:=(aR r6).2;have z0:f.frozen? ⟨n.heap.size+1+1+1,0,ν⟩=false:=eR r6 0;have z1:f.frozen? ⟨n.heap.size+1+1+1,1,ν⟩=false:=eR r6 1;have cb:=k;have b5:=a6;have f9:=ak r6;clear k a6 r6;refine kT (i:=0) rfl (by kernel_rfl) (λ_ _ _ g=>g) (by rintro wz ⟨⟨g1,g2⟩,g3⟩;go_simp;with_reducible rfl) hS ?_;refine kT (i:=1) rfl (by kernel_rfl) (λ_ _ _ g=>g) (by rintro wz ⟨⟨g1,g2⟩,g3⟩;go_simp;with_reducible rfl) hS ?_;refine qO (i:=2) (by kernel_rfl) rfl (by rfl) ?_;unfold iR;simp only[Act.put];go_simp;refine qO (i:=3) (by kernel_rfl) rfl (by rfl) ?_;unfold iR;go_simp;refine wpAnyH_done (by kernel_rfl) ?_ _;obtain⟨Z,hZ⟩:=nm ((f.setCell ⟨n.heap.size+1+1+1,0,ν⟩ (ψ U c.length T)).setCell ⟨n.heap.size+1+1+1,1,ν⟩ (ψ (σ ⟨I,0,ν⟩) c.length K));rw[<- hZ];have b0:Z.heap[n.heap.size+1+1+1]?=σ (wG U c.length T (σ ⟨I,0,ν⟩) c.length K):=by rw[hZ];exact sP f9.J
  have ad:∀b,b≠n.heap.size+1+1+1->Z.heap[b]?=f.heap[b]?:=λb j=>by rw[hZ];exact(ay _ _ _ _ j).trans (ay _ _ _ _ j)
  have bd:f.heap.size<=Z.heap.size:=by rw[hZ];simp[World.setCell]
  have av:Z.os=f.os/\Z.tape=f.tape/\Z.output=f.output:=by rw[hZ];exact⟨rfl,rfl,rfl⟩
  have HZ:=ak (And.intro b0 (And.intro ad (And.intro bd av)));clear hZ b0 ad bd av f0 f1 z0 z1 t0 t1 t2 hS;go_wp2_with fail;obtain⟨b0,ad,bd,av⟩:=HZ.J;have k:=cb;have jj:=vW.J;have Cb:=QH;have lx:=qg;refine rQ (B:=W0.heap.size) (b5.move (λo u he=>(ad o (by omega)).trans he)) λw' A=>?_;obtain⟨q0,q1⟩:=aR (A.eW _ _ b0 (.inr rfl));have vz:∀d∈fg,d.p<n.heap.size:=f6.J;have bS:gu w' W0.heap.size _ vs (bh D.length R'):=(k.own.moved (λb j=>ad b (by omega))).turn A;refine⟨.tuple #[χ #[ψ U c.length T,ψ (σ ⟨I,0,ν⟩) c.length K],ι κ S0.length],by simp[results,results92,go_sem,q0,q1],_,_,_,_,_,_,l,R',by rw[a4.J],λP hM=>⟨En (oZ (eJ k.kr (λab hg=>by have:=(k.kr.lt ab hg).1;exact ad ab (by omega))) A) (λx hk=>by have:=hM x hk;omega),C4 bS (λx hk=>by have:=hM x hk;omega)⟩,by rw[<- a4.J];exact aC.J,?_,k.ln,?_⟩
  .have E:xV Z l:=λd m=>by
    obtain⟨s,r⟩:=k.sv d m;have h3:=vz _ (k.mem m);have h4:=f5.J _ (k.mem m);exact⟨(ad _ (by omega)).trans s,ag r.1 bd,λx l1 l2=>(ad x (by omega)).trans (r.2 x l1 l2)⟩
   exact E.on A.size (λb s r=>by
    have j:Z.heap[b]?=σ Z.heap[b]:=eu _;rw[j];exact A.eW b _ j (.inl s)) (λd m=>(Cb.low _ (k.mem m)).2)
  refine⟨A.os.trans (av.1.trans (k.keep.os.trans lx.os)),A.tape.trans (av.2.1.trans (k.keep.tape.trans lx.tape)),A.output.trans (av.2.2.trans (k.keep.output.trans lx.output)),ag lx.size (ag k.keep.size (ag bd A.size)),λb j=>?_⟩;have E:Z.heap[b]?=n.heap[b]?:=(ad b (by omega)).trans ((k.keep.block b ⟨by omega,j.2⟩).trans (lx.block b j.1));have e2:n.heap[b]?=σ (n.heap[b]'j.1):=eu _;rw[e2]at E ⊢;exact A.eW b _ E (.inl (by omega))
end
