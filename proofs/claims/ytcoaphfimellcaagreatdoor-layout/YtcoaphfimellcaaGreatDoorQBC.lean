import Derived.Test.YtcoaphfimellcaaGreatDoorQBA
import Derived.Test.YtcoaphfimellcaaGreatDoorQBB
import Derived.Deep.DeepCutAuto
import Derived.Deep.RegionHeldLaw
import Derived.Test.YtcoaphfimellcaaGreatDoorQAK
set_option maxHeartbeats 0
set_option maxRecDepth 100000
namespace Go.Proofs.YtcoaphfimellcaaGreatDoor
open Go.RowKit
open _root_.Go.Proofs.Tryz
open Option renaming some→σ,none→ν
open Go.IntKind renaming i64→κ
open Go.Ending renaming returned→τ
open Go.Obj renaming cells→ξ
open Go renaming World→ω,Value→υ
open Go.RowKit renaming Below→δ
open Go.Value renaming int→ι,string→θ,slice→ψ,pointer→π,agg→χ
variable{w n s c o y:Nat}{p t u a d:υ}{m b z:ω}{x:TypeId}{v:Nat->Prop}{l:Array υ}{i:List Nat}{r:List υ}{k:Int}{g:Obj}
section
open Go.Shelf
attribute [local go_sem] kq
set_option linter.unusedSimpArgs false
structure sE where
 seg:Nat
 pk:Nat
 wd:Nat
 prune:Bool
 push:Bool
 bud:Nat
 s1:1<=seg
 s16:seg<=16
 p3:pk<=3
 w1:1<=wd
 w16:wd<=16
 b4:bud<=4096
def OB(o:sE):List υ:=[ι κ o.seg,ι κ o.pk,ι κ o.wd,.bool o.prune,.bool o.push,ι κ o.bud]
abbrev aaK(o:sE):Obj:=.cells #[.int .i64 o.seg,.int .i64 o.pk,.int .i64 o.wd,.bool o.prune,.bool o.push,.int .i64 o.bud] 53
structure Adding (Z:Nat->Prop)(w wr:ω)(q base S:Nat)(cols:List br)(cv rD sv mv:υ)(vs:List υ)(Ds Es:List (List (List aD)))(M:List (List aD))(n:Int)(at_:Nat):Prop where
 tab:oY Z w wr q base cols cv rD sv vs (Ds++Es) n
 bat:ik (kY q sv) wr mv (bh cols.length M)
 full:∀d∈Ds,d.length=S
 done:Es.flatten=M.take at_
 each:∀(i:Nat) (d:List (List aD)),Es[i]?=σ d->0<d.length/\d.length<=S/\(i+1<Es.length->d.length=S)
 pos:at_=Es.length*S
 UO:at_<M.length->∀d∈Es,d.length=S
theorem sO{wr w2:ω}{q base S:Nat}{cols:List br}{cv rD:υ}{vs:List υ}{c d:List (List (List aD))}{e:List (List aD)}(a:Adding v m wr q base S cols cv rD p t vs c d e k w)(b:δ wr.heap.size wr w2):Adding v m w2 q base S cols cv rD p t vs c d e k w:=
 ⟨a.tab.below b,a.bat.moves b.size (λf a _=>b.block f a),a.full,a.done,a.each,a.pos,a.UO⟩
theorem ik.sub{M':Nat->Prop}{L:List (List aD)}(j:ik v m p L)(g:∀f,M' f->v f):ik M' m p L:=by obtain⟨k,vs,l,n⟩:=j;exact⟨λa e b d c=>k a e b d (g _ c),vs,l,λu b t=>by obtain⟨w,o,r,s⟩:=n u b t;exact⟨w,o,r,λa e i d c=>s a e i d (g _ c)⟩⟩
theorem Adding.step{wr w4 w5:ω}{q base S:Nat}{cols:List br}{cv rD u:υ}{vs:List υ}{j i:List (List (List aD))}{e:List (List aD)}(b:Adding v m wr q base S cols cv rD p t vs j i e k w)(M:δ wr.heap.size wr w4){ss:List ByteArray}{ch:List (List aD)}(D:w4.ownsRow wr.heap.size 9 1 u ss.length (ss.map .string))(n:WC (cols.map (·.2)) (bh cols.length ch) ss)(O:ch=(e.drop w).take (min (w+S) e.length - w))(N:w<e.length){g cap:Nat}
 (X:w5.ownsRow base 265 1 (ψ (σ (Ad g 0)) ((j++i).length+1) cap) ((j++i).length+1) (vs++[u])) (C:(w4.alloc (ξ #[u] 265)).grownBy w5 p.ownBlock) (xT:p.ownBlock=σ g\/g=w4.heap.size+1) (G:0<cols.length) (hS:1<=S) :
 Adding v m (w5.setCell (Ad q 1) (ψ (σ (Ad g 0)) ((j++i).length+1) cap)) q base S cols cv rD (ψ (σ (Ad g 0)) ((j++i).length+1) cap) t (vs++[u]) j (i++[ch]) e k (w+S)/\w5.cell? (Ad q 1)=σ p/\w5.frozen? (Ad q 1)=false:=by
 have H:δ w4.heap.size w4 (w4.alloc (ξ #[u] 265)):=(ah _ _).alloc (ae _) _;have y:=M.trans (H.mono M.size);have hA:=b.tab.below y;have ad:jO (kY q p) u:=λQ an o E d=>by
  subst E;obtain⟨va,Z,z,s,-⟩:=cu D
  cases z
  have r:ss.length=cols.length:=by have:=n.1;rw[aQ]at this;exact this.symm
  obtain⟨g2,A,sC⟩:=s (by omega)
  cases A
  rcases d with a|a
  . have:=aw b.tab.eW;simp at a;omega
  . have:=(b.tab.own.lt _ a).2;simp at this;omega
 have al:jO v u:=λQ an o E d=>by
  subst E;obtain⟨va,Z,z,s,-⟩:=cu D
  cases z
  have r:ss.length=cols.length:=by have:=n.1;rw[aQ]at this;exact this.symm
  obtain⟨g2,A,sC⟩:=s (by omega)
  cases A
  have h1:=b.tab.zin _ d;have:=b.tab.keep.size;simp at h1;omega
 have P:0<ss.length:=by have:=n.1;rw[aQ]at this;omega
 have F:p.ownBlock=σ g\/(w4.alloc (ξ #[u] 265)).heap.size<=g:=xT.imp id (λa=>by simp;omega);obtain⟨aa,I⟩:=hA.WL (bu.below (bu.eY D) H (ae _)) ad al n P X C F G;obtain⟨-,Y,-⟩:=aY I;have ab:0<e.length:=by omega
 have yu:∀o∈bh cols.length e,0<o.length:=λo hc=>by rw[ep hc];exact ab
 have ac:ch.length=min S (e.length - w):=by rw[O,bV,bW];omega
 have R:ch=(e.drop w).take S:=(by rw[O];by_cases h2:w+S<=e.length;{rw[fA h2,mJ]};rw[mH (by omega),aI (by rw[bW];exact ae _),aI (by rw[bW];omega)]);refine⟨⟨by rw[<- cj];exact aa,?_,b.full,?_,λam x c=>?_,?_,λr x c=>?_⟩,Y,eR I 1⟩
 .have T:=b.bat.moves y.size (λf l _=>y.block f l)
  have U:=T.weaken (M':=λf=>kY q p f\/f=g) (λf d=>d.imp id id |>.elim .inl (λa=>F.elim (λK=>.inl (.inr (by rw[K,a]))) (λK=>.inr (by omega)))) (by rw[bB];exact G) yu;have V:=U.moves (w':=w5) C.size (λf l d=>C.block f l (λa=>d (.inl (.inr a.symm))));have W:=V.moves (w':=w5.setCell (Ad q 1) (ψ (σ (Ad g 0)) ((j++i).length+1) cap)) (by simp[World.setCell]) (λf l d=>ay _ _ _ _ (show f≠q fromλa=>d (.inl (.inl a))));exact W.sub (λf d=>by
   rcases d with a|a
   . exact .inl (.inl a)
   . simp[Value.ownBlock]at a;exact .inr a.symm)
 {rw[jc,b.done,R,vy];simp};{rw[iz]at c;split at c;{have:=b.UO N x (aA c);exact⟨by omega,by omega,λ_=>this⟩};have r:=(aj.mp c).1;simp at r;have e0:am - i.length=0:=(by omega);rw[e0]at c;cases c;exact⟨by omega,by omega,λl=>by simp at l;omega⟩};{rw[az,nY,<- b.pos];simp};rw[bP,bj]at c;rcases c with c|rfl;{exact b.UO N x c};rw[ac];omega
theorem Adding.few{wr:ω}{q base S:Nat}{cols:List br}{cv rD:υ}{vs:List υ}{a b:List (List (List aD))}{e:List (List aD)}(c:Adding v m wr q base S cols cv rD p t vs a b e k w)(d:1<=S)(l:a.flatten.length<=64)(n:w<=100):(a++b).length<=1000:=by have f:=vQ c.full;have g:=c.pos;have i:a.length<=a.length*S:=pU _ d;have j:b.length<=b.length*S:=pU _ d;rw[az];omega
theorem aaL{wr:ω}{base:Nat}{vs:List υ}(d:wr.ownsRow base 265 1 p n vs)(b:wr.heap[w]?=σ (ξ l x (0,0)))(f:x≠265)(e:wr.grownBy m p.ownBlock):m.heap[w]?=σ (ξ l x (0,0)):=by
 refine(e.block w (aw b) (λa=>?_)).trans b;rcases d.2 with⟨rfl,-⟩|⟨i,g,cur,rfl,-,c,-⟩
 {cases a};simp[Value.ownBlock]at a;subst a;rw[b]at c;cases c;exact f rfl
theorem Sm{B:Nat}{Wr:ω}{q base:Nat}{v:υ}{vs:List υ}(f:δ Wr.heap.size Wr m)(n:(m.alloc g).ownsRow base 265 1 p w vs)(o:Wr.heap[q]?=σ (ξ l x (0,0)))(j:(m.alloc g).grownBy b p.ownBlock):KeepsFrom B Wr (b.setCell (Ad q 1) v):=by have r:=j.size;refine⟨by have:=f.size;simp[World.setCell]at r ⊢;omega,λd u _ c k=>?_⟩;have e:=(ct m g d (ai (aw c) f.size)).trans ((f.block d (aw c)).trans c);refine(ay _ _ _ _ (show d≠q fromλa=>?_)).trans ((j.block d (aw e) (λa=>?_)).trans e);{subst a;rw[o]at c;cases c;cases k};rcases n.2 with⟨rfl,-⟩|⟨t,s,cur,rfl,-,i,-⟩;{cases a};simp[Value.ownBlock]at a;subst a;rw[e]at i;cases i;cases k
theorem Tryz.aaM:(prog.info? 265).map (λa=>(a.zero,a.size,a.bytes))=σ (σ (ψ ν 0 0),1,24):=by kernel_rfl
theorem BF{w1:ω}{b:υ}(c:w1.heap[w]?=σ (ξ #[p,t,u,a,d,b] x (0,0))):w1.cell? (Ad w 0)=σ p/\w1.cell? (Ad w 1)=σ t:=by simp[World.cell?,c]
theorem xl(b:Option Addr)(d c S:Nat)(a:ω):Calls prog 125 #[ψ b d c,ι κ S] a λe f=>e=τ (.func (.func 155) #[] #[π (σ (Ad a.heap.size 0)),π (σ (Ad (a.heap.size+1) 0))])/\f=(a.alloc (ξ #[ψ b d c] 152)).alloc (ξ #[ι κ S] 3):=by go_in;go_wp2_with fail;go_ret;exact⟨rfl,rfl⟩
theorem Adding.turn{B:Nat}{q base S:Nat}{cols:List br}{cv rD:υ}{vs:List υ}{c d:List (List (List aD))}{e:List (List aD)}(a:Adding v z m q base S cols cv rD p t vs c d e k w)(f:nS B m b)(g:z.heap.size<=B):Adding v z b q base S cols cv rD p t vs c d e k w:=
 ⟨a.tab.turn f g,a.bat.turn f,a.full,a.done,a.each,a.pos,a.UO⟩
abbrev tOb(q:Nat):Obj:=.cells #[.pointer (some (Ad q 0))] 139
def FK(W:ω)(n:Nat)(v:υ)(S:Nat):Prop:=W.heap[n]?=σ (ξ #[v] 152)/\W.heap[n+1]?=σ (ξ #[ι κ S] 3)
abbrev Sn(m q pk:Nat)(W:World):Prop:=W.cell? (Ad m 0)=some (.pointer (some (Ad q 0)))/\W.cell? (Ad (m+1) 1)=some (.int .i64 pk)
def JV(W:ω)(n q:Nat)(o:sE):Prop:=W.heap[n]?=σ (tOb q)/\W.heap[n+1]?=σ (aaK o)
theorem afa{ac:Nat->Prop}{w:ω}{q base:Nat}{cols:List br}{cv T mv:υ}{vs:List υ}{N:List (List (List aD))}{new:List (List aD)}(b:sE){n:Nat}(hN:n=N.flatten.length)(y:oY ac w w q base cols cv T T vs N n)(uH:nG b.seg N)(C:ik (kY q T) w mv (bh cols.length new))(vH:fB cols N.flatten)(wR:fB cols new)(d4:n+new.length<=64)(h0:0<new.length)(hk:∀j∈cols,j.2<=2)(Qv:0<cols.length)(d2:cols.length<=5)(uw:base<=w.heap.size) :
 Calls prog 277 #[π (σ (Ad q 0)),mv,.agg (OB b).toArray] w λY w'=>Y=τ (.tuple #[])/\∃FL pZ vR,oY ac w w' q base cols cv T FL pZ vR (n+new.length:Nat)/\nG b.seg vR/\vR.flatten=N.flatten++new:=by
 obtain⟨m,zV⟩:=nm ((w.alloc (tOb q)).alloc (aaK b));have mL:=vC zV;have WO:m.heap.size=w.heap.size+2:=by rw[zV];simp
 have ar:JV m w.heap.size q b:=(by rw[zV];exact⟨(ct _ _ _ (by simp)).trans (au w _),by have:=au (w.alloc (tOb q)) (aaK b);rwa[rj]at this⟩);have cg:=cell0 ar.1 0;obtain⟨ba,bb⟩:=BF ar.2;simp only[List.getElem?_toArray,List.getElem?_cons_zero]at cg;have Qw:=ak zV;clear zV;have E:=y.below mL;have a2:=C.moves mL.size (λe a _=>mL.block e a);obtain⟨t0,t1,t2⟩:=aY E.eW;obtain⟨i0,yG,lC,lI,kQ⟩:=iC Tryz.aaM;have Cq:=b.s1;have c9:=b.s16;have Z:=ak ar;have HK:=ak hk;have Je:=y.lq;unfold OB;refine uG func277 rfl ?_;simp only[ntmps277,List.size_toArray,List.length_cons,List.length_nil,Nat.reduceAdd,Nat.reduceSub,Array.replicate_succ,Array.replicate_zero,List.push_toArray,List.append_toArray,List.nil_append,List.cons_append];refine wp_seq_k λK1 Qu=>?_;have qW:=ak Qu;clear Qu;go_wp2_with fail;refine qW.J _ _ ?_;clear qW K1;rw[<- Qw.J];refine wp_seq_k λK2 VH=>?_;go_cut[1]from 6 to 53 (λc1 wx=>∃t H g c i,Hid (Adding ac w wx q base b.seg cols cv T H c1 t g [] c i 0)/\Hid (JV wx w.heap.size q b)/\Hid (fB cols c)/\Hid (c.length<=64/\0<c.length)/\Hid (g.flatten++c=N.flatten++new)/\Hid (g.flatten.length<=64)/\Hid (i+c.length=(n+new.length:Nat))/\Hid (0<=i/\i<=64))
 case first=>
  rcases uH.last with⟨hz,ml⟩|⟨g,j,ao,hD,FG,d3,b7⟩;(case inl=>rw[<- hN]at hz;have e0:((n:Int) % (b.seg:Int))=0:=(by omega);obtain⟨c,F⟩:=nm new;obtain⟨i,ap⟩:=nm (n:Int);obtain⟨g,a1⟩:=nm N;have QA:Hid (Adding ac w m q base b.seg cols cv T T mv vs g [] c i 0):=ak ⟨by rw[bQ,ap,a1];exact E,by rw[F];exact a2,by rw[a1];exact ml,by simp,λaa d a=>by simp at a,by simp,λ_ d a=>by simp at a⟩;have ax:Hid (fB cols c):=ak (by rw[F];exact wR);have am:Hid (c.length<=64/\0<c.length):=ak (by rw[F];omega);have av:Hid (g.flatten++c=N.flatten++new):=ak (by rw[F,a1]);have RQ:Hid (g.flatten.length<=64):=ak (by rw[a1];omega);have aC:Hid (i+c.length=(n+new.length:Nat)):=ak (by rw[ap,F];omega);have VQ:Hid (0<=i/\i<=64):=ak (by omega);clear y uH C mL E a2 vH wR hk hz ml hN F ap a1;go_wp2_with fail;go_quiet(fail);go_wp2_with fail;go_meet;exact⟨_,_,_,_,_,ak (sO QA.J (below_drewN (ah _ _) nq)),Z,ax,am,av,RQ,aC,VQ⟩);case inr=>
   have ds:((n:Int) % (b.seg:Int))=j.length:=(by rw[<- hN]at b7;omega);have EO:N.length=g.length+1:=(by rw[ao];simp);have UQ:=E.own;obtain⟨d,o⟩:∃d,g.length=d:=⟨_,rfl⟩;rw[EO,o]at UQ;obtain⟨sa,z,x,cd,dx⟩:=cu UQ;have dq:(d:Int)<=z:=(by omega);obtain⟨p,cs,d5⟩:=cd (by omega);subst cs;rw[x]at t1;rw[x]at UQ;have FJ:vs.length=d+1:=(by rw[E.sq.1,EO,o]);obtain⟨al,hu⟩:∃al,vs[d]?=σ al:=⟨vs[d]'(by omega),af _⟩;have s0:m.cell? (Ad p d)=σ al:=(UQ.cellAt d (by omega)).trans hu;obtain⟨A,bv,Jy⟩:=E.sq.2 d al j hu (by rw[ao,bp (by omega),o];simp);have db:(0:Int)<j.length:=(by omega);have cN:n=g.length*b.seg+j.length:=(by rw[hN,ao,jc,az,vQ hD];simp);have a3:g.flatten.length=g.length*b.seg:=vQ hD;have dd:d<=64:=(by have:g.length<=g.length*b.seg:=pU _ Cq;omega);obtain⟨M,K,c2⟩:=bu.slice bv;subst c2;obtain⟨c,F⟩:=nm (j++new);obtain⟨i,ap⟩:=nm ((n:Int) - j.length:Int);have dg:p<w.heap.size:=(by have:=(y.own.lt p (by rw[x];rfl)).2;exact this)
   have be:=ak (λ(nq:Nat) (w2 w3:ω) (a4:υ) (l:δ (m.drewN nq).heap.size (m.drewN nq) w2) (h3:δ (m.drewN nq).heap.size w2 w3) (fI:ik (·<(m.drewN nq).heap.size) w3 a4 (tL (bh cols.length j) (bh cols.length new)))=>(show(w3.heap[q]?=σ (aib cv (σ (Ad p 0)) (d+1) z n)/\JV w3 w.heap.size q b)/\∀ab,δ (w3.setCell (Ad q 1) (ψ (σ (Ad p 0)) d z)).heap.size (w3.setCell (Ad q 1) (ψ (σ (Ad p 0)) d z)) ab->(ab.heap[q]?=σ (aib cv (σ (Ad p 0)) d z n)/\JV ab w.heap.size q b)/\Adding ac w (ab.setCell (Ad q 2) (ι κ i)) q base b.seg cols cv T (ψ (σ (Ad p 0)) d z) a4 (vs.take d) g [] c i 0/\JV (ab.setCell (Ad q 2) (ι κ i)) w.heap.size q b from by
    have bo:δ m.heap.size m (m.drewN nq):=below_drewN (ah _ _) nq;have hz:(m.drewN nq).heap.size=m.heap.size:=rfl;rw[hz]at l h3 fI;have Mt:=bo.trans (l.trans h3);have A3:=E.below Mt;have d6:w.heap.size+1<m.heap.size:=by omega
    have cr:∀D∈vs.take d,jO (kY q (ψ (σ (Ad p 0)) d z)) D:=λD hx a8 bw cc hv C=>A3.JU D (eG hx) a8 bw cc hv (by rw[x];exact C.imp id id);have cp:qj w3 cols (vs.take d) g:=by
     refine⟨by rw[bV,FJ,o];omega,λaa D W s l=>?_⟩;have hi:=(aj.mp l).1;rw[gd,aF (by omega)]at s;exact A3.sq.2 aa D W s (by rw[ao,cw hi];exact l)
    have oG:w3.ownsRow base 265 1 (ψ (σ (Ad p 0)) g.length z) g.length (vs.take d):=by
     have a:=A3.own;rw[x,EO,o]at a;have:=Oz a (bE d) (by omega);rw[lS]at this;rw[o];exact this
    rw[o]at oG;have P:=A3.put (i:=1) (u:=ψ (σ (Ad p 0)) d z) (sv2:=ψ (σ (Ad p 0)) d z) (n2:=n) (vs2:=vs.take d) (Ds2:=g) rfl (by rw[o];exact oG) cp (λaq hg=>.inl (by rw[x];exact hg)) (by have:=A3.off;rw[x]at this;exact this) (λa8 bw cc hv C=>A3.Mr a8 bw cc hv (by rw[x];exact C.imp id id)) cr (λD hx=>A3.zap D (eG hx));have FF:∀e aa a5 (D:ω),e≠q->(D.setCell (Ad q aa) a5).heap[e]?=D.heap[e]?:=λe aa a5 D a=>ay _ _ _ _ a;have I:JV w3 w.heap.size q b:=⟨((h3.block _ (by omega)).trans ((l.block _ (by omega)).trans (bo.block _ (by omega)))).trans ar.1,((h3.block _ (by omega)).trans ((l.block _ (by omega)).trans (bo.block _ (by omega)))).trans ar.2⟩;refine⟨⟨by have:=A3.eW;rw[x]at this;exact this,I⟩,λab hX=>?_⟩;have x8:JV ab w.heap.size q b:=⟨(hX.block _ (by simp[World.setCell];exact aw I.1)).trans ((FF _ _ _ _ (by omega)).trans I.1),(hX.block _ (by simp[World.setCell];exact aw I.2)).trans ((FF _ _ _ _ (by omega)).trans I.2)⟩;have P:=P.below hX;have P2:=P.put (i:=2) (u:=ι κ i) (sv2:=ψ (σ (Ad p 0)) d z) (n2:=i) (vs2:=vs.take d) (Ds2:=g) rfl P.own P.sq P.row P.off P.Mr P.JU P.zap;refine⟨⟨P.eW,x8⟩,⟨by rw[bQ];exact P2,?_,hD,by simp,λaa d a=>by simp at a,by simp,λ_ d a=>by simp at a⟩,(FF _ _ _ _ (by omega)).trans x8.1,(FF _ _ _ _ (by omega)).trans x8.2⟩;rw[F,<- uF];have b4:=(fI.sub (M':=kY q (ψ (σ (Ad p 0)) d z)) (λe C=>by rcases C with W|W;omega;simp[Value.ownBlock]at W;omega));have c4:=b4.moves (w':=w3.setCell (Ad q 1) (ψ (σ (Ad p 0)) d z)) (by simp[World.setCell]) (λe hh C=>ay _ _ _ _ (show e≠q fromλW=>C (.inl W)));exact(c4.moves hX.size (λe hh _=>hX.block e hh)).moves (by simp[World.setCell]) (λe hh C=>ay _ _ _ _ (show e≠q fromλW=>C (.inl W)))))
   have b2:=ak (λnq=>CK (w:=m.drewN nq) (bu.below bv (below_drewN (ah _ _) nq) (ae _)) Jy (by have:=Jy.1;rw[aQ]at this;omega));have b0:=ak (λnq (w2:ω) v1 t (l:δ (m.drewN nq).heap.size (m.drewN nq) w2) (s:gu w2 (m.drewN nq).heap.size v1 t (bh cols.length j))=>Sj (sv:=mv) (S:=bh cols.length new) s (λw' a=>a2.batch.below ((below_drewN (ah _ _) nq).trans (l.trans a)) (ae _)) (by rw[bB,bB]) (by rw[bB];omega) (λaa a8 e ha hb=>by have e1:=ep (aA ha);have e2:=ep (aA hb);omega) l.size);have ax:Hid (fB cols c):=ak (by rw[F];intro Y hr;rw[bP]at hr;rcases hr with hr|hr;exact vH Y (by rw[ao,jc];simp[hr]);exact wR Y hr);have am:Hid (c.length<=64/\0<c.length):=ak (by rw[F,az];omega);have av:Hid (g.flatten++c=N.flatten++new):=ak (by rw[F,ao,jc];simp);have RQ:Hid (g.flatten.length<=64):=ak (by omega);have aC:Hid (i+c.length=(n+new.length:Nat)):=ak (by rw[ap,F,az];omega);have VQ:Hid (0<=i/\i<=64):=ak (by omega);have cn:Hid ((n:Int) - j.length=i):=ak ap.symm;have dS:(j.length:Int)<=n:=(by omega);clear y uH C mL E a2 vH wR hk hN b7 bv Jy hu EO o cN a3 F ap ao hD x cd;go_wp2_with fail;go_quiet(fail);go_wp2_with fail;refine(b2.J nq).mono ?_;rintro Y w2 ⟨v1,t,rfl,JW,cG⟩;have HJ:=b0.J nq w2 v1 t cG JW;obtain⟨fa,dn,rfl,-,-⟩:=cu JW.row;clear JW b0 b2;go_wp2_with fail;refine HJ.mono ?_;rintro Y w3 ⟨a4,rfl,fI,Ht⟩;have b5:=Ht.trans ((aH (ah w3.heap.size w3)).mono (ag cG.size Ht.size));obtain⟨⟨LQ,a0⟩,cS⟩:=be.J nq w2 w3 a4 cG Ht fI;obtain⟨-,b9⟩:=be.J nq w2 w3.drew a4 cG b5 (fI.moves (ae _) (λ_ _ _=>rfl));obtain⟨t0,t1,t2⟩:=aY LQ;have dN:=eR LQ 1;have c5:=cell0 a0.1 0;simp only[List.getElem?_toArray,List.getElem?_cons_zero]at c5;have a6:=ak b9;obtain⟨xa,dl,rfl⟩:=fI.batch.slice;clear cS b9 a0 LQ fI Ht b5 be HJ;go_wp2_with fail;go_cut[]from 34 to 53 (λwx=>wx=w3.drew.setCell (Ad q 1) (ψ (σ (Ad p 0)) d z))
   (case first=>go_region;(all_goals(try go_wp2_with fail));(all_goals go_meet);all_goals rfl);case rest=>obtain⟨ab,hX⟩:=nm (w3.drew.setCell (Ad q 1) (ψ (σ (Ad p 0)) d z));rw[<- hX]at hcut a6;subst hcut;obtain⟨⟨bt,KN⟩,-⟩:=a6.J wc (ah _ _);obtain⟨t0,t1,t2⟩:=aY bt;have cL:=eR bt 2;have c6:=cell0 KN.1 0;simp only[List.getElem?_toArray,List.getElem?_cons_zero]at c6;obtain⟨-,KO,a0⟩:=a6.J wc (ah _ _);obtain⟨ba,bb⟩:=BF KN.2;have QA:=ak KO;have Z:=ak a0;have fE:¬(w.heap.size+1=q):=(by omega);clear bt KN KO a0 a6 hX;go_wp2_with fail;go_meet;rw[cn.J];exact⟨_,_,_,_,_,QA,Z,ax,am,av,RQ,aC,VQ⟩
 case rest=>
  obtain⟨t,H,g,c,i,QA,Z,ax,am,av,RQ,aC,VQ⟩:=hcut;clear y uH C mL E a2 vH wR t0 t1 t2 cg ba bb ar;obtain⟨ba,bb⟩:=BF Z.J.2;obtain⟨an,hW⟩:=nm wc;subst hW;refine VH _ _ ?_;clear VH;obtain⟨ma,Sr,rfl⟩:=QA.J.bat.batch.slice;have vz:=fX an (ξ #[ψ ma (bh cols.length c).length Sr] 152) (ξ #[ι κ b.seg] 3);go_wp2_with fail;refine(xl _ _ _ _ _).mono ?_;rintro W W2 ⟨rfl,qM⟩;rw[<- qM]at vz;have bm:w.heap.size<=W2.heap.size:=ag QA.J.tab.keep.size vz.1.size;have cl:Hid (∃H t O,Adding ac w W2 q base b.seg cols cv T H (ψ ma (bh cols.length c).length Sr) t g O c i 0/\JV W2 w.heap.size q b/\FK W2 an.heap.size (ψ ma (bh cols.length c).length Sr) b.seg):=
   ak ⟨_,_,[],sO QA.J vz.1,⟨(vz.1.block _ (aw Z.J.1)).trans Z.J.1,(vz.1.block _ (aw Z.J.2)).trans Z.J.2⟩,⟨vz.2.2,vz.2.1⟩⟩
  clear vz qM ba bb;go_wp2_with fail;refine wC (n:=9).1 (Gf (a1:=?a1) (by decide) rfl call155 (CN (q:=an.heap.size) (q2:=an.heap.size+1) (S:=b.seg) (N:=c.length) (bv:=ψ ma (bh cols.length c).length Sr) (L:=bh cols.length c) (by omega) (by omega) (λj hc=>ep hc) (by have:=am.J.1;omega) (by intro a;have:=bB cols.length c;rw[a]at this;simp at this;omega) (by rw[bB];omega))
   (λX Wx=>∃H t O,Adding ac w Wx q base b.seg cols cv T H (ψ ma (bh cols.length c).length Sr) t g O c i X/\JV Wx w.heap.size q b/\FK Wx an.heap.size (ψ ma (bh cols.length c).length Sr) b.seg) (λ_ _=>False)
   (λX Wx a=>by obtain⟨_,_,_,s,_,l⟩:=a;exact⟨cell0 l.1 0,cell0 l.2 0,s.bat.batch⟩) ?hI (λ_ _ _ a _=>a) (λX a5 c7 ci B a r=>a.turn r) cl.J ?assign ?body ?done (λ_ _ _ _ a=>a.elim))
  (case hI=>rintro X ci B ⟨H,t,O,s,l,h3⟩ r;exact⟨H,t,O,s.turn r bm,⟨r.eW _ _ l.1 (.inr rfl),r.eW _ _ l.2 (.inr rfl)⟩,r.eW _ _ h3.1 (.inr rfl),r.eW _ _ h3.2 (.inr rfl)⟩);(case assign=>intro c3 a5 Wx G k;gi_wp2;exact k);case done=>
   rintro bc X Wd hD D7 ⟨H,t,O,v,u,-⟩ BG;obtain⟨t0,t1,t2⟩:=aY v.tab.eW;have cL:=eR v.tab.eW 2;have tb:=cell0 u.1 0;simp only[List.getElem?_toArray,List.getElem?_cons_zero]at tb;obtain⟨UR,c8⟩:=VQ.J;have KM:=am.J.1;have o:=aH (ah Wd.heap.size Wd);have hE:O.flatten=c:=(by rw[v.done,aI D7]);have U:=sO v o;have b3:=U.tab.put (i:=2) (u:=ι κ (i+c.length)) (sv2:=H) (n2:=i+c.length) (vs2:=t) (Ds2:=g++O) rfl U.tab.own U.tab.sq U.tab.row U.tab.off U.tab.Mr U.tab.JU U.tab.zap;have fE:bc≠q:=(by have:=v.tab.lq;omega)
   have a3:(Wd.drew.setCell (Ad q 2) (ι κ (i+c.length))).heap[bc]?=σ (.deferred (σ [])):=(ay _ _ _ _ fE).trans BG;have P2:=b3.turn (.put (.deferred ν) a3 hD rfl) bm;have Hu:Hid (∃FL pZ vR,oY ac w ((Wd.drew.setCell (Ad q 2) (ι κ (i+c.length))).putObj bc (.deferred ν)) q base cols cv T FL pZ vR (n+new.length:Nat)/\nG b.seg vR/\vR.flatten=N.flatten++new):=ak ⟨H,t,g++O,by rw[<- aC.J];exact P2,λaa d o=>by
    rw[iz]at o;split at o
    . have:=v.full d (aA o)
      exact⟨by omega,by omega,λ_=>this⟩
    . have:=v.each _ d o
      exact⟨this.1,this.2.1,λa=>this.2.2 (by rw[az]at a;omega)⟩,by rw[jc,hE];exact av.J⟩
   have HR:=rO U.bat.batch (gA (R:=c) (show 0<cols.length by omega));rw[aQ]at HR;have ck:=ak a3;have KE:IntKind.i64.wrap (i+(c.length:Int))=i+c.length:=(by rw[jC];omega);clear v U hE b3 P2 o u BG a3;go_wp2_with fail;go_region_with(go_at_call 94;(with_reducible refine dQ HR ?_);rintro W w' ⟨rfl,rfl⟩);all_goals refine(show LeavesInM Fence.wide 9 prog _ _ _ _ _ _ from⟨by simp,.inl ⟨_,_,rfl,run_takeDeferred ck.J,?_⟩⟩);exact⟨_,sV rfl _ _ _,rfl,Hu.J⟩
  case body=>rintro c3 X a5 m Wr ⟨H,t,O,E,bi,bl⟩ y D7 OC;have hv:=(OC (λ_=>False) (λ_ a=>a.elim) (E.bat.sub (λ_ a=>a.elim))).batch;have v:=E.turn y bm;have u:JV Wr w.heap.size q b:=⟨y.eW _ _ bi.1 (.inr rfl),y.eW _ _ bi.2 (.inr rfl)⟩;have ca:FK Wr an.heap.size (ψ ma (bh cols.length c).length Sr) b.seg:=⟨y.eW _ _ bl.1 (.inr rfl),y.eW _ _ bl.2 (.inr rfl)⟩;clear E bi bl y OC;obtain⟨e,hb⟩:=nm (min (X+b.seg) c.length);rw[<- hb,tM]at hv;obtain⟨ch,a9⟩:=nm ((c.drop X).take (e - X));rw[<- a9]at hv;obtain⟨pa,b6,x⟩:=hv.slice;rw[bB]at x;subst x;have yq:Sn w.heap.size q b.pk Wr.drew:=⟨cell0 u.1 0,cell0 u.2 1⟩;have RF:=aH (ah Wr.heap.size Wr);have ad:=sO v RF;have xT:e - X<=64:=(by omega);have KM:=am.J.1;have b1:=Si (p:=b.pk) ad.tab.eW ad.tab.Ji (hv.below RF (ae _)) (bB _ _) HK.J (λaa cx kk s l=>ae5 (λY hr=>ax.J Y (by rw[a9]at hr;exact iy (eG hr))) s l) (λcx hc=>by rw[ep hc,a9,bV];omega) (by omega) (by have:=b.p3;omega) (by rw[bB];omega);obtain⟨d7,d8,x,-,-⟩:=cu ad.tab.own;subst x;obtain⟨t0,t1,t2⟩:=aY ad.tab.eW;have tD:=ak (λf al A (s:δ Wr.drew.heap.size Wr.drew f) l h3 aq eZ w5 h4 h5 h6=>ad.step (w4:=f) (w5:=w5) (u:=al) (ss:=A) (ch:=ch) (g:=aq) (cap:=eZ) s l h3 (by rw[a9,hb]) D7 h4 h5 h6 Qv Cq);have bd:=ak (λf (s:δ Wr.drew.heap.size Wr.drew f)=>And.intro (ad.tab.below s).eW (And.intro (ad.tab.below s).own (show Wr.heap.size<=f.heap.size from s.size)));have d0:base<=Wr.heap.size:=(by have:=v.tab.keep.size;omega);have wL:=v.few Cq RQ.J (by omega);have co:=ak v.tab.eW;have cm:Hid (q<w.heap.size/\w.heap.size<=an.heap.size):=ak ⟨v.tab.lq,QA.J.tab.keep.size⟩;obtain⟨nn,cb⟩:∃nn,(g++O).length=nn:=⟨_,rfl⟩;rw[cb]at tD bd t1 wL;clear v hv ad RF cb;gi_wp2;refine sN (m:=15) (ls:=#[false,false,false,false,false,false,false,false,false,false,false,false,false,false,false]) (by kernel_rfl) (by kernel_rfl) (λ⟨_,_,a⟩=>a) rfl rfl ?_;have bx:∀(f:ω) D,Sn w.heap.size q b.pk f->Sn w.heap.size q b.pk (f.alloc D):=λf D V=>⟨pP (B:=0) V.1 (.below ((ah _ _).alloc (ae _) _)),pP (B:=0) V.2 (.below ((ah _ _).alloc (ae _) _))⟩;refine wpAny_of_held (S:=Sn w.heap.size q b.pk) _ _ _ _ ?_;refine wpAnyH_take (i:=0) (v:=_) rfl (by kernel_rfl) (by kernel_rfl) (by kernel_rfl) (λ_ _ _ a=>a) (Or.inl ⟨by rfl,by rintro wz ⟨Q,R⟩;go_simp;with_reducible rfl⟩) yq ?_;refine wpAnyH_take (i:=1) (v:=_) rfl (by kernel_rfl) (by kernel_rfl) (by kernel_rfl) (λ_ _ _ a=>a) (Or.inl ⟨by rfl,by rintro wz ⟨Q,R⟩;go_simp;with_reducible rfl⟩) yq ?_;refine wpAnyH_take (i:=2) (v:=_) rfl (by kernel_rfl) (by kernel_rfl) (by kernel_rfl) (λ_ _ _ a=>a) (Or.inl ⟨by rfl,by rintro wz ⟨Q,R⟩;go_simp;with_reducible rfl⟩) yq ?_;refine wpAnyH_take (i:=3) (v:=_) rfl (by kernel_rfl) (by kernel_rfl) (by kernel_rfl) (λ_ _ _ a=>a) (Or.inl ⟨by rfl,by rintro wz ⟨Q,R⟩;go_simp;with_reducible rfl⟩) yq ?_;refine wpAnyH_take (i:=5) (v:=_) rfl (by kernel_rfl) (by kernel_rfl) (by kernel_rfl) (λ_ _ _ a=>a) (Or.inl ⟨by rfl,by rintro wz ⟨Q,R⟩;go_simp;with_reducible rfl⟩) yq ?_;refine wpAnyH_take (i:=6) (v:=_) rfl (by kernel_rfl) (by kernel_rfl) (by kernel_rfl) (λ_ _ _ a=>a) (Or.inl ⟨by rfl,by rintro wz ⟨Q,R⟩;go_simp;with_reducible rfl⟩) yq ?_;refine wpAnyH_take (i:=7) (v:=_) rfl (by kernel_rfl) (by kernel_rfl) (by kernel_rfl) (λ_ _ _ a=>a) (Or.inl ⟨by rfl,by rintro wz ⟨Q,R⟩;go_simp;with_reducible rfl⟩) yq ?_;refine wpAnyH_take (i:=8) (v:=_) rfl (by kernel_rfl) (by kernel_rfl) (by kernel_rfl) (λ_ _ _ a=>a) (Or.inl ⟨by rfl,by rintro wz ⟨Q,R⟩;go_simp;with_reducible rfl⟩) yq ?_;simp only[Act.put,List.setIfInBounds_toArray,List.set_cons_zero,List.set_cons_succ,List.getElem_toArray,List.getElem_cons_zero,List.getElem_cons_succ];refine wpAnyH_ready (rs:=[4,9]) (by kernel_rfl) (by simp) ?_;refine AllReadyH.cons rfl (λG k=>?wa) (AllReadyH.cons rfl (λG k=>?wb) AllReadyH.nil);(case' wa=>go_simp;refine k.out _ _ yq (λ_=>?_);refine wpAnyH_ready (rs:=[9]) (by kernel_rfl) (by simp) ?_;refine AllReadyH.cons rfl (λG k=>?_) AllReadyH.nil;refine ie rfl 283 _ _ rfl call283 #[π (σ (Ad q 0)),ψ pa cols.length b6,ι κ b.pk] (by simp[Act.eval]) _ (by with_reducible exact b1) ?_;rintro Y f ⟨al,A,rfl,hu,Jy,I⟩;refine⟨_,rfl,?_⟩;obtain⟨Hv,ce,nQ⟩:=bd.J f I;obtain⟨M,K,rfl,-,-⟩:=cu hu;obtain⟨u0,u1,u2⟩:=aY Hv;obtain⟨y0,y1,y2⟩:=aY ((ct f (ξ #[ψ M A.length K] 265) _ (aw Hv)).trans Hv);have OD:δ Wr.heap.size Wr f:=(aH (ah Wr.heap.size Wr)).trans I;have V:Sn w.heap.size q b.pk f:=⟨cell0 ((OD.block _ (aw u.1)).trans u.1) 0,cell0 ((OD.block _ (aw u.2)).trans u.2) 1⟩;simp only[Act.put,List.setIfInBounds_toArray,List.set_cons_zero,List.set_cons_succ];refine k.out _ _ V (λ_=>?_);refine wpAnyH_ready (rs:=[10]) (by kernel_rfl) (by simp) ?_;refine AllReadyH.cons rfl (λG k=>?_) AllReadyH.nil;go_simp;have WQ:=bx f (ξ #[ψ M A.length K] 265) V;refine k.out _ _ WQ (λ_=>?_));(case' wb=>refine ie rfl 283 _ _ rfl call283 #[π (σ (Ad q 0)),ψ pa cols.length b6,ι κ b.pk] (by simp[Act.eval]) _ (by with_reducible exact b1) ?_;rintro Y f ⟨al,A,rfl,hu,Jy,I⟩;refine⟨_,rfl,?_⟩;obtain⟨Hv,ce,nQ⟩:=bd.J f I;obtain⟨M,K,rfl,-,-⟩:=cu hu;obtain⟨u0,u1,u2⟩:=aY Hv;obtain⟨y0,y1,y2⟩:=aY ((ct f (ξ #[ψ M A.length K] 265) _ (aw Hv)).trans Hv);have OD:δ Wr.heap.size Wr f:=(aH (ah Wr.heap.size Wr)).trans I;have V:Sn w.heap.size q b.pk f:=⟨cell0 ((OD.block _ (aw u.1)).trans u.1) 0,cell0 ((OD.block _ (aw u.2)).trans u.2) 1⟩;simp only[Act.put,List.setIfInBounds_toArray,List.set_cons_zero,List.set_cons_succ];refine k.out _ _ V (λ_=>?_);refine wpAnyH_ready (rs:=[4,10]) (by kernel_rfl) (by simp) ?_;refine AllReadyH.cons rfl (λG k=>?wc) (AllReadyH.cons rfl (λG k=>?wd) AllReadyH.nil));(case' wc=>go_simp;refine k.out _ _ V (λ_=>?_);refine wpAnyH_ready (rs:=[10]) (by kernel_rfl) (by simp) ?_;refine AllReadyH.cons rfl (λG k=>?_) AllReadyH.nil;go_simp;have WQ:=bx f (ξ #[ψ M A.length K] 265) V;refine k.out _ _ WQ (λ_=>?_));(case' wd=>go_simp;have WQ:=bx f (ξ #[ψ M A.length K] 265) V;refine k.out _ _ WQ (λ_=>?_);refine wpAnyH_ready (rs:=[4]) (by kernel_rfl) (by simp) ?_;refine AllReadyH.cons rfl (λG k=>?_) AllReadyH.nil;go_simp;refine k.out _ _ WQ (λ_=>?_));all_goals have cf:(f.alloc (ξ #[ψ M A.length K] 265)).heap.size=f.heap.size+1:=(by simp);have OE:=ce.alloc (ξ #[ψ M A.length K] 265);have up:∀(e:Nat) (j:Array υ) (r:TypeId),Wr.heap[e]?=σ (ξ j r (0,0))->(f.alloc (ξ #[ψ M A.length K] 265)).heap[e]?=σ (ξ j r (0,0)):=λe j r a=>(ct f _ e (ai (aw a) OD.size)).trans ((OD.block e (aw a)).trans a);refine wpAnyH_ready (rs:=[11]) (by kernel_rfl) (by simp) ?_;refine AllReadyH.cons rfl (λG k=>?_) AllReadyH.nil;refine step_append_lies _ rfl (.tmp 60) (.tmp 66) 203 rfl base 265 i0 _ 1 24 underlying203 yG lC lI kQ rfl (by decide) _ _ _ (by simp[Act.eval]) OE (Ad f.heap.size 0) 1 1 [ψ M A.length K] (by simp[Act.eval]) rfl (World.news_of_block (au f (ξ #[ψ M A.length K] 265))) (by simp[Value.oneCell']) (by decide) (by unfold maxLen;omega) (by omega) (by rw[cf];omega) (f.heap.size+1) cf ?_;intro aq eZ w5 bS bY dT _;obtain⟨b8,d1,fz⟩:=tD.J f _ A I hu Jy aq eZ w5 bS bY dT;have bg:∀(e:Nat) (j:Array υ) (r:TypeId),r≠265->Wr.heap[e]?=σ (ξ j r (0,0))->w5.heap[e]?=σ (ξ j r (0,0)):=λe j r y a=>aaL OE (up e j r a) y bY;have Q:=bg _ _ _ (by decide) u.1;have R:=bg _ _ _ (by decide) u.2;have g3:=bg _ _ _ (by decide) ca.1;have g4:=bg _ _ _ (by decide) ca.2;have tG:=Sm (B:=W2.heap.size) (v:=ψ (σ (Ad aq 0)) (nn+1) eZ) OD OE co.J bY;have V3:Sn w.heap.size q b.pk w5:=⟨cell0 Q 0,cell0 R 1⟩;obtain⟨l1,l2⟩:=cm.J;have sc:∀(e:Nat) (j:Obj),e≠q->w5.heap[e]?=σ j->(w5.setCell (Ad q 1) (ψ (σ (Ad aq 0)) (nn+1) eZ)).heap[e]?=σ j:=λe j a h'=>(ay _ _ _ _ a).trans h';have s1:=sc _ _ (by omega) Q;have s2:=sc _ _ (by omega) R;have tN:=ak (And.intro tG (And.intro b8 (And.intro (And.intro s1 s2) (And.intro (sc _ _ (by omega) g3) (sc _ _ (by omega) g4)))));have c0:=And.intro (cell0 s1 0) (cell0 s2 1);clear b8 tG Q R g3 g4 s1 s2 bS bY dT OE bg sc;simp only[Act.put,List.setIfInBounds_toArray,List.set_cons_zero,List.set_cons_succ];refine k.out _ _ V3 (λ_=>?_);refine wpAnyH_ready (rs:=[12]) (by kernel_rfl) (by simp) ?_;refine AllReadyH.cons rfl (λG k=>?_) AllReadyH.nil;go_simp;refine k.out _ _ V3 (λ_=>?_);refine wpAnyH_ready (rs:=[13]) (by kernel_rfl) (by simp) ?_;refine AllReadyH.cons rfl (λG k=>?_) AllReadyH.nil;go_simp;refine k.out _ _ V3 (λ_=>?_);refine wpAnyH_ready (rs:=[14]) (by kernel_rfl) (by simp) ?_;refine AllReadyH.cons rfl (λG k=>?_) AllReadyH.nil;go_simp;refine k.out _ _ c0 (λ_=>?_);refine wpAnyH_done (by kernel_rfl) ?_ _;obtain⟨e1,e2,e3,e4⟩:=tN.J;exact⟨e1,_,_,_,e2,e3,e4⟩
end
def kd(cv:υ)(vs:List υ)(b:Nat):Prop:=cv.ownBlock=σ b\/∃u∈vs,u.ownBlock=σ b
structure ke (w1 wr:ω)(base:Nat)(cv:υ)(yY vs:List υ)(L:List (List aD)):Prop where
 own:gu wr base cv vs L
 fresh:∀u∈vs,∀g,u.ownBlock=σ g->(∃u0∈yY,u0.ownBlock=σ g)\/w1.heap.size<=g
 keep:aX (λb=>b<w1.heap.size/\¬kd cv yY b) w1 wr
section
variable {w1 wr w2:ω} {base B:Nat} {cv:υ} {yY vs vs2:List υ} {L L0 L2:List (List aD)}
theorem gu.below(a:gu m base p vs L)(c:δ m.heap.size m b):gu b base p vs L:=⟨cq a.row c,a.each.below c,a.off⟩
theorem gu.turn(a:gu w1 base cv vs L)(b:nS B w1 w2):gu w2 base cv vs L:=⟨oZ a.row b,⟨a.each.len,λf g c d e=>oZ (a.each.own f g c d e) b,a.each.apart⟩,a.off⟩
theorem gu.inside(b:gu wr base cv vs L)(c:kd cv vs w):base<=w/\w<wr.heap.size:=by rcases c with a|⟨g,e,a⟩;{exact b.row.lt w a};obtain⟨f,d⟩:=dz e;exact b.each.lt d a
theorem qk{size:Nat}(c:m.ownsRow base x size p w r)(a:p.ownBlock=σ n):∃b,m.heap[n]?=σ (ξ b x (0,0)):=by rcases c.2 with⟨rfl,-⟩|⟨f,e,cur,rfl,-,d,-⟩;{cases a};cases a;exact⟨cur,d⟩
theorem gu.eW(e:gu wr base cv vs L)(f:kd cv vs w):∃a d,wr.heap[w]?=σ (ξ a d (0,0))/\(d=230\/d=229):=by rcases f with b|⟨m,j,b⟩;{obtain⟨a,c⟩:=qk e.row b;exact⟨a,_,c,.inl rfl⟩};obtain⟨l,g⟩:=dz j;obtain⟨k,-,i⟩:=e.each.at g;obtain⟨a,c⟩:=qk i b;exact⟨a,_,c,.inr rfl⟩
theorem gu.FM(c:gu wr base cv vs L)(e:wr.heap[w]?=σ (ξ l x (0,0)))(b:x≠230/\x≠229):¬kd cv vs w:=λf=>by
 obtain⟨g,i,a,d⟩:=c.eW f;rw[e]at a
 cases a
 exact d.elim b.1 b.2
theorem ke.below(b:ke w1 wr base cv yY vs L)(a:δ wr.heap.size wr w2):ke w1 w2 base cv yY vs L:=
 ⟨b.own.below a,b.fresh,b.keep.trans ⟨a.os,a.tape,a.output,a.size,λc d=>a.block c (ai d.1 b.keep.size)⟩⟩
theorem ke.old(a:ke w1 wr base cv yY vs L)(b:w<w1.heap.size)(c:¬kd cv yY w):wr.heap[w]?=w1.heap[w]?:=a.keep.block w ⟨b,c⟩
theorem gu.here(a:gu wr base cv vs L):ke wr wr base cv vs vs L:=⟨a,λd c _ b=>.inl ⟨d,c,b⟩,aX.refl _ _⟩
theorem ke.US(b:ke w1 wr base cv yY vs L)(e:kd cv vs w):kd cv yY w\/w1.heap.size<=w:=by rcases e with a|⟨g,f,a⟩;{exact .inl (.inl a)};exact(b.fresh g f w a).imp (λ⟨i,c,d⟩=>.inr ⟨i,c,d⟩) id
theorem ke.chain(b:ke w1 wr base cv yY vs L)(a:ke wr w2 base cv vs vs2 L2):ke w1 w2 base cv yY vs2 L2:=
 ⟨a.own,λm l e j=>by
  rcases a.fresh m l e j with⟨n,g,i⟩|c
  . exact b.fresh n g e i
  . exact .inr (ag b.keep.size c),b.keep.trans ⟨a.keep.os,a.keep.tape,a.keep.output,a.keep.size,λf d=>a.keep.block f ⟨ai d.1 b.keep.size,λk=>by
    rcases b.US k with c|c
    . exact d.2 c
    . exact absurd d.1 (by omega)⟩⟩⟩
theorem ke.from(a:ke w2 wr base cv yY vs L)(b:δ w1.heap.size w1 w2):ke w1 wr base cv yY vs L:=
 ⟨a.own,λj i f g=>(a.fresh j i f g).imp id (λe=>ag b.size e),⟨a.keep.os.trans b.os,a.keep.tape.trans b.tape,a.keep.output.trans b.output,ag b.size a.keep.size,λd c=>(a.keep.block d ⟨ai c.1 b.size,c.2⟩).trans (b.block d c.1)⟩⟩
theorem ke.keeps(d:gu w1 base cv yY L0)(b:ke w1 wr base cv yY vs L):KeepsFrom B w1 wr:=
 ⟨b.keep.size,λi j _ a e=>(b.old (aw a) (λf=>by
  obtain⟨g,k,c,-⟩:=d.eW f;rw[a]at c
  cases c
  cases e)).trans a⟩
theorem ke.box(b:ke w1 wr base cv yY vs L)(c:gu w1 base cv yY L0)(a:w1.heap[w]?=σ (ξ l x (0,0)))(d:x≠230/\x≠229):wr.heap[w]?=σ (ξ l x (0,0)):=
 (b.old (aw a) (c.FM a d)).trans a
theorem ke.low(a:ke w1 wr base cv yY vs L)(c:gu w1 base cv yY L0)(f:w<=base)(b:w<=w1.heap.size):δ w w1 wr:=
 ⟨a.keep.os,a.keep.tape,a.keep.output,a.keep.size,λg d=>a.old (ai d b) (λe=>by have:=(c.inside e).1;omega)⟩
theorem ke.WL(f:ke w1 wr base (ψ (σ (Ad w 0)) n s) yY vs L)(F:L.length=n){b:List aD}{l:aD}(A:vs[c]?=σ t)(O:L[c]?=σ b){w3:ω}(N:δ wr.heap.size wr m)
 (M:w3.ownsRow base 229 3 (ψ (σ (Ad o 0)) (b.length+1) y) (b.length+1) (bI b++oE l)) (k:m.grownBy w3 t.ownBlock) (E:t.ownBlock=σ o\/wr.heap.size<=o) :
 ke w1 (w3.setCell (Ad w c) (ψ (σ (Ad o 0)) (b.length+1) y)) base (ψ (σ (Ad w 0)) n s) yY (vs.set c (ψ (σ (Ad o 0)) (b.length+1) y)) (L.set c (b++[l])):=by
 have X:c<n:=by rw[<- F];exact(aj.mp O).1
 have x:=f.below N;have W:=f.own.row.lt w rfl;have H:=aA A;have K:o≠w:=(by rcases E with a|a;{intro v;exact f.own.off c t o A a (by rw[v];rfl)};omega);have P:∀i e,i≠c->vs[i]?=σ e->e.ownBlock≠σ o:=by
  intro i e z r v;rcases E with a|a
  {exact f.own.each.apart c i t e o (λa=>z a.symm) A r a v};have:=(f.own.each.lt r v).2;omega
 have G:=dH x.own.row k (λC g a=>f.own.off c t C A g (by simpa using a));rw[F]at G;have Q:=(G.stored c (ψ (σ (Ad o 0)) (b.length+1) y)).1;have I:=grownBy_setCell w3 (Ad w c) (ψ (σ (Ad o 0)) (b.length+1) y);have R:w3.ownsRow base 229 3 (ψ (σ (Ad o 0)) (b.length+1) y) (b++[l]).length (bI (b++[l])):=(by have a:bI (b++[l])=bI b++oE l:=(by simp[bI]);rw[a,az];exact M);refine⟨⟨by rw[ny,F];exact Q,?_,λi e D d j=>?_⟩,λe r D p=>?_,?_⟩;{exact x.own.each.set (dH R I (λC g a=>by cases g;simp[Value.ownBlock]at a;exact K a)) (λi e U z d j=>dH (dH (x.own.each.own i e U d j) k (λC g a=>f.own.each.apart c i t e C (λa=>z a.symm) A d g a)) I (λC g a=>by cases g;exact f.own.off i e w d a rfl)) (λi e D z d p=>by simp[Value.ownBlock]at p;subst p;exact P i e z d)};{rw[bH]at d;split at d;{split at d;{cases d;simp[Value.ownBlock]at j;subst j;simp[Value.ownBlock];exactλa=>K a.symm};cases d};exact f.own.off i e D d j}
 .rcases List.mem_or_eq_of_mem_set r with r|rfl;{exact f.fresh e r D p}
  simp[Value.ownBlock]at p;subst p;rcases E with a|a
  {exact f.fresh t H o a};have:=f.keep.size;exact .inr (by omega)
 have V:aX (λu=>u<w1.heap.size/\¬kd (ψ (σ (Ad w 0)) n s) yY u) w1 w3:=x.keep.trans ⟨k.os,k.tape,k.output,k.size,λu g=>k.block u (ai g.1 x.keep.size) (λa=>by
  rcases f.fresh t H u a.symm with⟨T,d,j⟩|v
  . exact g.2 (.inr ⟨T,d,j⟩)
  . exact absurd g.1 (by omega))⟩
 exact V.setCell (p:=(Ad w c)) (λg=>g.2 (.inl rfl)) _
theorem ke.seen{w3:ω}(b:ke w1 wr base (ψ (σ (Ad w 0)) n s) yY vs L)(i:L.length=n)(o:c<n)(j:vs[c]?=σ p)(e:δ wr.heap.size wr m)(f:m.grownBy w3 p.ownBlock) :
 (∃l,w3.cell? (Ad w c)=σ l)/\w3.frozen? (Ad w c)=false:=by have a:=dH (b.below e).own.row f (λk g d=>b.own.off c p k j g (by simpa using d));rw[i]at a;refine⟨?_,a.frozenAt c⟩;rw[a.cellAt c (by omega)];exact⟨_,af (by have:=a.1;omega)⟩
end
theorem aaQ{base:Nat}(f:m.ownsRow base 230 1 (ψ (σ (Ad n 0)) w w) w (List.replicate w sL)):gu m base (ψ (σ (Ad n 0)) w w) (List.replicate w sL) (bh w []):=by have e:∀(b:Nat) (a:υ),(List.replicate w sL)[b]?=σ a->a=sL:=λb a i=>(ug.mp (aA i)).2;refine⟨by rw[bB];exact f,⟨by simp[bB],λb a j c g=>?_,λb k a l n _ c _ d=>?_⟩,λb a n c d=>?_⟩;{obtain⟨-,rfl⟩:=Hr g;rw[e b a c];exact⟨rfl,.inl ⟨rfl,rfl⟩⟩};{rw[e b a c]at d;cases d};rw[e b a c]at d;cases d
theorem xo{a:Option Addr}{cap:Nat}(D:w<=1000):Calls prog 123 #[ψ a w cap] m λx l=>∃i,x=τ (χ #[ψ a w cap,i])/\gu l m.heap.size i (List.replicate w sL) (bh w [])/\δ m.heap.size m l:=by
 obtain⟨s,A,u,v,t⟩:=iC Tryz.pB;go_in;have r:(m.alloc (ξ #[ψ ν 0 0,ψ ν 0 0] 154)).heap.size=m.heap.size+1:=by simp
 go_wp2_with(at_make;refine dV _ rfl _ _ 152 rfl m.heap.size 230 s _ 1 underlying152 A u v _ _ _ _ w rfl rfl rfl rfl (by rw[t];omega) (by unfold maxLen;omega) (by simp) ?_;intro w1 d e;have c:=(e.block m.heap.size (by simp) (by simp)).trans (au m _);obtain⟨y,z⟩:=aR c;have E:=eR c 0;have F:=eR c 1;rw[r,lS,sZ]at d;have j:δ m.heap.size m w1:=(((ah _ _).alloc (ae _) _).grown e (by simp) (by simp));have C:=ak c;have n:=ak j;have o:=ak d;clear c d e j);(try simp only[Exit.inBlock,Exit.then]);have k:∀b,(Value.slice (σ (Ad (m.heap.size+1) 0)) w w).ownBlock=σ b->¬σ m.heap.size=σ b:=λb p=>by simp[Value.ownBlock]at p;simp;omega
 refine aB (v:=_) (by simp[results,results123,go_sem,y,z];rfl) rfl ?_;refine⟨_,rfl,aaQ ?_,(n.J.setCell (ae _) _).setCell (ae _) _⟩;exact dH (dH o.J (grownBy_setCell _ (Ad m.heap.size 0) _) (λb g f=>k b f g)) (grownBy_setCell _ (Ad m.heap.size 1) _) (λb g f=>k b f g)
theorem Mu(c:br):∀b∈mP c,b.oneCell'=true:=by intro b a;simp[mP]at a;rcases a with rfl|rfl<;>rfl
theorem Tryz.Hw:(prog.info? 202).map (λa=>(a.zero,a.size,a.bytes))=σ (σ (χ #[θ ⟨#[]⟩,ι κ 0]),2,24):=by kernel_rfl
theorem E0{q:Nat}{M:Int}{cols:List br}{cv:υ}{k:Nat}{caps:Array υ}(w:m.heap[q]?=σ (obN cv p M))(A:ew m cv cols)(K:gw m t i)(Q:∀c∈i,c<cols.length)(h5:i.length<=1000) :
 Calls prog 69 #[χ #[π (σ (Ad q 0)),t,.func (.func k) #[] caps]] m λam O=>∃N,am=τ N/\O.ownsRow m.heap.size 202 2 N i.length ((i.map λc=>cols.getD c default).flatMap mP)/\δ m.heap.size m O:=by
 obtain⟨C,H,rfl⟩:=A.slice;obtain⟨g,l,rfl⟩:=bu.slice K;obtain⟨j0,Y,Z,Mp,Mq⟩:=iC Tryz.Hw;obtain⟨d,s⟩:=nm (m.alloc (Nd (π (σ (Ad q 0))) g i.length l (.func (.func k) #[] caps)));have G:=oJ s;have x:d.heap[m.heap.size]?=σ (Nd (π (σ (Ad q 0))) g i.length l (.func (.func k) #[] caps)):=by rw[s];exact au m _
 have y:=ak (λwr (D:δ d.heap.size d wr)=>(show(wr.cell? (Ad q 0)=σ (ψ C cols.length H)/\wr.cell? (Ad q 1)=σ p/\wr.cell? (Ad q 2)=σ (ι κ M))/\ew wr (ψ C cols.length H) cols/\gw wr (ψ g i.length l) i/\(wr.cell? (Ad m.heap.size 0)=σ (π (σ (Ad q 0)))/\wr.cell? (Ad m.heap.size 1)=σ (ψ g i.length l)/\wr.cell? (Ad m.heap.size 2)=σ (.func (.func k) #[] caps))/\δ m.heap.size m wr from by
  have j:=G.trans (D.mono G.size);exact⟨aY ((j.block q (aw w)).trans w),A.below j (ae _),bu.below K j (ae _),aY ((D.block _ (aw x)).trans x),j⟩))
 have OG:=ak Q;have W:=ak s;have X:Hid (m.heap.size<d.heap.size):=ak (aw x);have ao:=aw w;obtain⟨⟨b0,b1,b2⟩,-,-,⟨y0,y1,y2⟩,-⟩:=y.J d (ah _ _);obtain⟨e,r⟩:=nm (i.map λc=>cols.getD c default);rw[<- r];have T:=ak r;have ab:e.length=i.length:=by rw[r,aQ]
 have P:=ak ab;go_in;go_wp2_with fail;rw[<- W.J];go_loopw[10,3] (λb al wr=>∃(a:Nat) (z:Option Addr) (o:Nat),a<=i.length/\b=ι κ a/\al=ψ z a o/\Hid (wr.ownsRow d.heap.size 202 2 (ψ z a o) a ((e.take a).flatMap mP))/\Hid (δ d.heap.size d wr)) (λb _ _=>i.length - (intOf b).toNat);case atStart=>exact⟨0,ν,0,aK _,rfl,rfl,ak ⟨rfl,.inl ⟨rfl,rfl⟩⟩,ak (ah _ _)⟩
 case round=>obtain⟨a,z,o,hi,rfl,rfl,n,f⟩:=hrel;by_cases cL:a<i.length;{have ju:(a:Int)<i.length:=(by omega);obtain⟨⟨b0,b1,b2⟩,R,ac,⟨y0,y1,y2⟩,I⟩:=y.J wr f.J;obtain⟨c,v⟩:∃c,i[a]?=σ c:=⟨_,af cL⟩;have ad:=OG.J c (aA v);have an:(c:Int)<cols.length:=(by omega);obtain⟨sg,so,Hq,u,s0⟩:=gw.get ac v;cases u;obtain⟨b,E⟩:∃b,cols[c]?=σ b:=⟨_,af ad⟩;obtain⟨cg,co,NR,u,c0,c1⟩:=ew.get R E;cases u;have yf:e.take (a+1)=e.take a++[b]:=(by rw[de,T.J,aV,v];simp[List.getD,E]);have V:Hid ((e.take (a+1)).flatMap mP=(e.take a).flatMap mP++mP b):=ak (by rw[yf,eN,qE]);have lx:=f.J.size;have uk:=n.J.alloc (YO b.1 b.2);have uj:=ak (World.news_of_block (au wr (YO b.1 b.2)));go_wp2_with(at_builtin;refine cJ _ rfl _ _ 149 rfl d.heap.size 202 j0 _ 2 24 underlying149 Y Z Mp Mq rfl (by decide) _ _ _ rfl uk (Ad wr.heap.size 0) 1 1 (mP b) rfl rfl uj.J (Mu b) (by decide) (by unfold maxLen;omega) (by omega) (by simp;omega) ?_;intro aa eZ w3 bS bY dT);have yn:Hid (w3.ownsRow d.heap.size 202 2 (ψ (σ (Ad aa 0)) (a+1) eZ) (a+1) ((e.take (a+1)).flatMap mP)):=ak (by rw[V.J];exact bS);have nF:=(f.J.alloc lx _).grown bY (by simp;omega) (λk hk=>(n.J.lt k hk).1);(try go_wp2_with fail);go_roundw;(case rel=>exact⟨a+1,_,_,by omega,by go_num,rfl,yn,nF⟩);case measure=>simp[intOf];omega};obtain rfl:a=i.length:=(by omega);have F:=n.J;rw[aI (by rw[P.J];exact ae _)]at F;obtain⟨-,-,-,-,I⟩:=y.J wr f.J;have U:=eB F (fL X.J);go_wp2_with fail;go_ret;exact⟨_,rfl,U,I⟩
abbrev A8:=Nm×(Ex×Nat)
def Sv(r:A8):List υ:=[θ r.1.1,ι κ r.1.2,ι κ r.2.2,oL r.2.1]
def fU(cols:List br):List A8->List br->(Nat×Nat) ⊕ List br
 |[],l=>.inr l
 |r::t,l=>if 0<=yg l r.1.1 then .inl (6,r.1.2)else match cH cols r.2.1 with
   |.inr f=>.inl f
   |.inl k=>fU cols t (l++[(r.1.1,k)])
theorem jP{w1:ω}(b:w1.heap[w]?=σ (ξ #[p,t,u,a] x (0,0))):w1.cell? (Ad w 0)=σ p/\w1.cell? (Ad w 1)=σ t/\w1.cell? (Ad w 2)=σ u/\w1.cell? (Ad w 3)=σ a:=by simp[World.cell?,b]
def anD(w w':ω)(M:(Nat×Nat) ⊕ List br)(e:Ending):Prop:=δ w.heap.size w w'/\(∀g,M=.inl g->e=τ (.tuple #[ψ ν 0 0,χ #[ι κ g.1,ι κ g.2]]))/\∀l,M=.inr l->∃ov,e=τ (.tuple #[ov,χ #[ι κ 0,ι κ 0]])/\w'.ownsRow w.heap.size 202 2 ov l.length (l.flatMap mP)
theorem UT{d:List A8}(l:bu m 4 p d.length (d.flatMap Sv)){c:A8}(j:d[w]?=σ c):∃a b i,p=ψ (σ (Ad a b)) d.length i/\m.cell? (Ad a (b+w*4))=σ (θ c.1.1)/\m.cell? (Ad a (b+w*4+1))=σ (ι κ c.1.2)/\m.cell? (Ad a (b+w*4+2))=σ (ι κ c.2.2)/\m.cell? (Ad a (b+w*4+3))=σ (oL c.2.1):=by obtain⟨a,b,i,o,-,-,r⟩:=bu.at l (du (aK _) (aj.mp j).1);have f:∀e (k:e<4) (g:υ),(Sv c)[e]?=σ g->m.cell? (Ad a (b+(w*4+e)))=σ g:=λe k g n=>r _ g (by rw[dy Sv 4 (λ_=>rfl) d j k];exact n);exact⟨a,b,i,o,f 0 (by decide) _ rfl,f 1 (by decide) _ rfl,f 2 (by decide) _ rfl,f 3 (by decide) _ rfl⟩
theorem Mv{cols:List br}{b:List A8}{a:A8}{l:List br}(e:b[w]?=σ a):fU cols (b.drop w) l=if 0<=yg l a.1.1 then .inl (6,a.1.2)else match cH cols a.2.1 with
 |.inr d=>.inl d
 |.inl g=>fU cols (b.drop (w+1)) (l++[(a.1.1,g)]):=by
 obtain⟨c,f⟩:=aj.mp e;rw[cA c,f];rfl
theorem Hy{cols:List br}{cv:υ}{c:List A8}(hc:ew m cv cols)(h5:cols.length<=1000)(hr:bu m 4 p c.length (c.flatMap Sv))(Cv:∀a∈c,pz a.2.1)(D4:c.length<=1000) :
 Calls prog 311 #[χ #[p],cv] m λi w'=>anD m w' (fU cols c []) i:=by
 obtain⟨ca,ij,rfl⟩:=hc.slice;obtain⟨Z,Y,rfl⟩:=bu.slice hr;obtain⟨j0,Ml,Mn,Mp,Mq⟩:=iC Tryz.Hw;obtain⟨e,hW⟩:=nm ((m.alloc (ξ #[ψ Z c.length Y] 291)).alloc (gY 0 0));obtain⟨V,Q,a0⟩:=fX m (ξ #[ψ Z c.length Y] 291) (gY 0 0);rw[<- hW]at V Q a0;have yZ:m.heap.size+1<e.heap.size:=aw Q;have W:=ak (λwr (A:δ e.heap.size e wr)=>(show ew wr (ψ ca cols.length ij) cols/\bu wr 4 (ψ Z c.length Y) c.length (c.flatMap Sv)/\wr.heap[m.heap.size+1]?=σ (gY 0 0)/\δ m.heap.size m wr from by
  have P:=V.trans (A.mono V.size);exact⟨hc.below P (ae _),bu.below hr P (ae _),(A.block _ (by omega)).trans Q,P⟩))
 have ao:=ak (λ(a:A8) (hx:a∈c) x (hX:ew x (ψ ca cols.length ij) cols)=>Z1 (cols:=cols) (by omega) a.2.1 (Cv a hx) x hX);have HW:=ak hW;go_in;go_wp2_with fail;rw[<- HW.J];go_loopw[14,6] (λM a6 wr=>∃(d:Nat) (l:Option Addr) (g:Nat) (b:List br),d<=c.length/\M=ι κ d/\b.length<=d/\a6=ψ l b.length g/\Hid (fU cols c []=fU cols (c.drop d) b)/\Hid (wr.ownsRow e.heap.size 202 2 (ψ l b.length g) b.length (b.flatMap mP))/\Hid (δ e.heap.size e wr)) (λM _ _=>c.length - (intOf M).toNat);case atStart=>exact⟨0,ν,0,[],aK _,rfl,ae _,rfl,ak rfl,ak ⟨rfl,.inl ⟨rfl,rfl⟩⟩,ak (ah _ _)⟩
 case round=>
  obtain⟨d,l,g,b,hi,rfl,j,rfl,v,w,u⟩:=hrel;obtain⟨DY,a3,T,lM⟩:=W.J wr u.J;by_cases cL:d<c.length
  .have ju:(d:Int)<c.length:=(by omega);obtain⟨a,ui⟩:∃a,c[d]?=σ a:=⟨_,af cL⟩;obtain⟨rg,ro,UU,he,c0,c1,c2,c3⟩:=UT a3 ui;cases he;obtain⟨te,x9,hm,LL⟩:=pb a.2.1;rw[x9]at c3;obtain⟨W2,X⟩:=nm (wr.alloc (ad3 a.1.1 a.1.2 a.2.2 (.iface te (qG a.2.1))));have lx:=oJ X;have Nn:W2.heap[wr.heap.size]?=σ (ad3 a.1.1 a.1.2 a.2.2 (.iface te (qG a.2.1))):=(by rw[X];exact au wr _);have je:=Mv (cols:=cols) (l:=b) ui;have an:=ak (Cj b (ψ l b.length g) a.1.1 W2 (bu.eY (cq w.J lx)) (by omega));have ap:=ak (λx A=>ao.J a (aA ui) x A);have WR:=ak Nn;have aa:=ak lx;have uz:=ak X;have k:=ak je;go_wp2_with fail;rw[<- uz.J];refine an.J.mono ?_;rintro i w3 ⟨rfl,fI⟩;have nB:=aa.J.trans (fI.mono aa.J.size);have ab:=u.J.trans (nB.mono u.J.size);have D:=(fI.block _ (aw WR.J)).trans WR.J;obtain⟨o0,o1,o2,o3⟩:=jP D;obtain⟨Sy,-,t,vS⟩:=W.J w3 ab;obtain⟨N,O⟩:=aR t;have z0:=eR t 0;have z1:=eR t 1;have DW:=aw t;have a8:=aw D;by_cases C:0<=yg b a.1.1;{have n:Hid (fU cols c []=.inl (6,a.1.2)):=ak (by rw[v.J,k.J,aF C]);have a1:((yg b a.1.1)>=0):=C;have H:=ak vS;go_wp2_with fail;go_region;all_goals (try go_wp2_with fail);refine aB (v:=_) (by simp[results,results311,go_sem,N,O];rfl) rfl ?_;rw[n.J];exact⟨((aH H.J).setCell (bE _) _).setCell (bE _) _,λz r=>by cases r;rfl,λb j=>nomatch j⟩}
   have a1:¬((yg b a.1.1)>=0):=C;have Jh:=ak (ap.J w3 Sy);have yn:=ak (cq w.J nB);have nF:=ak ab;have CD:=ak D;rw[aE C]at k;go_wp2_with fail;refine Jh.J.mono ?_;rintro i w4 ⟨a2,mK⟩;obtain⟨f,y,K,rfl,kR⟩:=yE a2;obtain⟨W4,G⟩:=nm (w4.alloc (gY y K));have x8:=oJ G;have RM:W4.heap[w4.heap.size]?=σ (gY y K):=(by rw[G];exact au w4 _);have aC:=mK.trans (x8.mono mK.size);have Y4:=ak G;have YZ:=ak RM;have ac:=ak aC;go_wp2_with fail;rw[<- Y4.J];refine(JC _ _ _).mono ?_;rintro i w6 ⟨rfl,Ng⟩;have I:=ac.J.trans (Ng.mono ac.J.size);have Y9:=(Ng.block _ (aw YZ.J)).trans YZ.J;obtain⟨q0,q1⟩:=aR Y9;have a4:=(I.block _ (aw CD.J)).trans CD.J;obtain⟨p0,p1,p2,p3⟩:=jP a4;have F:=nF.J.trans (I.mono nF.J.size);obtain⟨-,-,R,ax⟩:=W.J w6 F;obtain⟨g0,g1⟩:=aR R;have y0:=eR R 0;have y1:=eR R 1;have ad:=cq yn.J I;have a5:=F.size;rcases kR with⟨rfl,rfl,E⟩|⟨o,E⟩
   {have o:((((0:Nat):Int)) != 0)=false:=rfl;rw[E]at k;have uk:=ak (ad.alloc (YO a.1.1 f));have uj:=ak (World.news_of_block (au w6 (YO a.1.1 f)));have ar:=ak ad;have FD:=ak F;have aq:Hid (fU cols c []=fU cols (c.drop (d+1)) (b++[(a.1.1,f)])):=ak (v.J.trans k.J);go_wp2_with(at_builtin;refine cJ _ rfl (.tmp 39) (.tmp 45) 149 rfl e.heap.size 202 j0 _ 2 24 underlying149 Ml Mn Mp Mq rfl (by decide) _ _ _ rfl uk.J (Ad w6.heap.size 0) 1 1 (mP (a.1.1,f)) rfl rfl uj.J (Mu _) (by decide) (by unfold maxLen;omega) (by omega) (by simp;omega) ?_;intro z eZ w7 bS bY dT);have av:Hid (w7.ownsRow e.heap.size 202 2 (ψ (σ (Ad z 0)) (b++[(a.1.1,f)]).length eZ) (b++[(a.1.1,f)]).length ((b++[(a.1.1,f)]).flatMap mP)):=ak (by rw[az,eN,qE];exact bS);have Rq:=ak ((FD.J.alloc a5 _).grown bY (by simp;omega) (λs U=>(ar.J.lt s U).1));(try go_wp2_with fail);go_roundw;(case rel=>exact⟨d+1,_,_,b++[(a.1.1,f)],by omega,by go_num,by simp;omega,by simp,aq,av,Rq⟩);case measure=>simp[intOf];omega};have WS:(((y:Nat):Int) != 0)=true:=(by simpa using o);rw[E]at k;have n:Hid (fU cols c []=.inl (y,K)):=ak (v.J.trans k.J);have H:=ak ax;go_wp2_with fail;go_region;all_goals (try go_wp2_with fail);refine aB (v:=_) (by simp[results,results311,go_sem,g0,g1];rfl) rfl ?_;rw[n.J];exact⟨((aH H.J).setCell (bE _) _).setCell (bE _) _,λz r=>by cases r;rfl,λb j=>nomatch j⟩
  obtain rfl:d=c.length:=by omega
  have n:Hid (fU cols c []=.inr b):=ak (by rw[v.J,fC];rfl);obtain⟨N,O⟩:=aR T;have z0:=eR T 0;have z1:=eR T 1;have a9:=u.J.size;have tN:=ak (λal am=>(show δ m.heap.size m ((wr.setCell (Ad (m.heap.size+1) 0) al).setCell (Ad (m.heap.size+1) 1) am)/\((wr.setCell (Ad (m.heap.size+1) 0) al).setCell (Ad (m.heap.size+1) 1) am).ownsRow m.heap.size 202 2 (ψ l b.length g) b.length (b.flatMap mP)from by
   have o:∀s,σ (m.heap.size+1)=σ s->(Value.slice l b.length g).ownBlock≠σ s:=λs U i=>by cases U;have:=(w.J.lt _ i).1;omega
   exact⟨(lM.setCell (bE _) _).setCell (bE _) _,dH (dH (eB w.J (by omega)) (grownBy_setCell _ (Ad (m.heap.size+1) 0) _) o) (grownBy_setCell _ (Ad (m.heap.size+1) 1) _) o⟩))
  go_wp2_with fail;refine aB (v:=_) (by simp[results,results311,go_sem,N,O];rfl) rfl ?_;rw[n.J];exact⟨(tN.J _ _).1,(λz r=>nomatch r),λl' j=>by cases j;exact⟨_,rfl,(tN.J _ _).2⟩⟩
theorem aaT(c:Bool)(d a b:Int)(e:ω):(binOp .eql 298 (χ #[.bool c,ι κ d,θ ⟨#[]⟩,ι κ a,ι κ b]) (χ #[.bool false,ι κ 1,θ ⟨#[]⟩,ι κ 0,ι κ 0])).run prog e=.ok (.bool (!c&&decide (d=1)&&decide (a=0)&&decide (b=0))) e:=by go_simp;by_cases f:d=1<;>by_cases g:a=0<;>by_cases i:b=0<;>cases c<;>simp[f,g,i]
theorem tP{w1:ω}(b:w1.heap[w]?=σ (ξ #[p,t,u,a,d] x (0,0))):w1.cell? (Ad w 0)=σ p/\w1.cell? (Ad w 1)=σ t/\w1.cell? (Ad w 2)=σ u/\w1.cell? (Ad w 3)=σ a/\w1.cell? (Ad w 4)=σ d:=by simp[World.cell?,b]
theorem OH{o:dj}(f:∀a,o=.inl a->rN a):∃d e b c,j7 o=[.bool d,ι κ e,θ ⟨#[]⟩,ι κ b,ι κ c]/\(!d&&decide (e=1)&&decide (b=0)&&decide (c=0))=pQ o/\((∃q,o=.inr q/\b=9/\c=q)\/((∃a,o=.inl a)/\b=0/\c=0)):=by
 cases o with
 |inr q=>exact⟨false,0,9,q,rfl,by simp[pQ],.inl ⟨q,rfl,rfl,rfl⟩⟩
 |inl a=>rcases f a rfl with rfl|rfl|rfl<;>exact⟨_,_,_,_,rfl,by simp[pQ,fD,po],.inr ⟨⟨_,rfl⟩,rfl,rfl⟩⟩
theorem OI{f:Nat->Bool}(a:i[w]?=σ n):(i.take (w+1)).filter f=(i.take w).filter f++if f n then[n]else[]:=by rw[de,a,pJ];cases hf:f n<;>simp[hf]
theorem SC{k f:ω}{lo:Nat}{pv shv wv bv:υ}{B:List (List aD)}{b:List aD}{ok:List aD->Prop}{i:List aD->dj}(a3:∃k,pv=.pointer k)(aC:∃k H b,shv=ψ k H b)(hw:dJ k lo wv ok i)(K:ft lo k.heap.size k f)(hF:∀row,ok row->∀b,i row=.inl b->rN b)(E:eC f bv B)(h0:B[0]?=σ b)(hN:∀a0∈B,a0.length=b.length)(FG:0<b.length)(hl:b.length<=64)(G:∀g,g<b.length->ok (rowOf B g)) :
 Calls prog 126 #[χ #[pv,shv,wv],bv] f λg w'=>∃ap,g=τ ap/\w'.ownsRow f.heap.size 3 1 ap ((List.range b.length).filter λg=>pQ (i (rowOf B g))).length (((List.range b.length).filter λg=>pQ (i (rowOf B g))).map mM)/\δ f.heap.size f w':=by
 obtain⟨pa,rfl⟩:=a3;obtain⟨sa,sn,sc,rfl⟩:=aC;obtain⟨ba,iQ,rfl⟩:=E.slice;obtain⟨H,am,rfl,hE,hC⟩:=hw;obtain⟨j0,Ml,Mn,Mp,Mq⟩:=iC Tryz.vP;obtain⟨d,D⟩:=nm (f.alloc (Nd (.pointer pa) sa sn sc (.func (.func H) #[] am)));have m:=oJ D;have u:d.heap[f.heap.size]?=σ (Nd (.pointer pa) sa sn sc (.func (.func H) #[] am)):=by rw[D];exact au f _
 obtain⟨c,hm⟩:=nm b.length;have Za:=m.trans ((aH (ah d.heap.size d)).mono m.size);have U:=rO (E.below Za (ae _)) h0;rw[<- hm]at U hl G hN FG ⊢;have HU:=CM c (by omega) d.drew;have BI:=ak (λ(aa:ω) (Y:δ f.heap.size f aa) N (o:gw aa N (List.range c))=>hC aa ⟨ag K.1 Y.size,λF h1 h2=>(Y.block F (ai h2 K.1)).trans (K.2 F h1 h2)⟩ _ B N (List.range c) (E.below Y (ae _)) o (λaq hx b hc=>by rw[hN b hc];exact dB.mp hx) (by rw[cV];exact hl) (λaq hx=>G aq (dB.mp hx)));have av:=ak (λT (r:T<c) b hc=>hF _ (G T r) b hc);have HW:=ak D;have ad:=ak u;have HZ:Hid (f.heap.size<d.heap.size):=ak (aw u);have HT:=ak (λf=>td true f);have al:Hid (yF (.inl (jL true))=χ #[.bool false,ι κ 1,θ ⟨#[]⟩,ι κ 0,ι κ 0]):=ak rfl;rw[al.J]at HT;obtain⟨l,hf⟩:=nm (λg=>pQ (i (rowOf B g)));have ar:=ak hf;rw[<- hf];unfold Enters at hE;obtain⟨v0,v1,v2⟩:=aY (show d.drew.heap[f.heap.size]?=_ from u);have FJ:f.heap.size<d.drew.heap.size:=aw (w:=d.drew) u;clear E hC K hF hN G D u h0 hm hf al Za;go_in;go_wp2_with fail;rw[<- HW.J];go_cut[15,16,17] (λac a4 a6 P=>a6=ι κ 0/\a4=ι κ c/\∃w x,ac=ψ (σ (Ad w 0)) c x/\Hid (P.ownsRow d.heap.size 298 5 (ψ (σ (Ad w 0)) c x) c (((List.range c).map λg=>i (rowOf B g)).flatMap j7))/\Hid (δ d.heap.size d P));case first=>
  go_region_with(first
   | (go_at_call 94;(with_reducible refine dQ U ?_);rintro ab w' ⟨rfl,rfl⟩)
   | (go_at_call 119;(with_reducible refine dQ HU ?_);rintro ab w1 ⟨N,rfl,o,C⟩;have pC:=m.trans (((aH (ah d.heap.size d)).trans C).mono m.size);obtain⟨x0,Q,x2⟩:=aY ((C.block _ FJ).trans ad.J);have Y0:=ak (BI.J w1 pC N (by unfold gw;rw[cV];exact bu.eY o));have gq:=ak C;obtain⟨ra,rK,rfl,-,-⟩:=cu o;clear o C pC)
   | ((with_reducible refine dQ Y0.J ?_);rintro ab w2 ⟨ov,rfl,j,cG⟩;rw[cV]at j;have n:Hid (δ d.heap.size d w2):=ak (((aH (ah d.heap.size d)).trans gq.J).trans (cG.mono gq.J.size));obtain⟨y0,R,y2⟩:=aY ((n.J.block _ FJ).trans ad.J);obtain⟨oa,x,rfl,OE,-⟩:=cu j;obtain⟨w,rfl,a2⟩:=OE FG;have X:=ak (eB j (show d.heap.size<=_ from gq.J.size));clear j cG OE a2))
  all_goals(try go_wp2_with fail)
  all_goals go_meet
  all_goals exact⟨rfl,rfl,w,x,rfl,X,n⟩
 case rest=>
  obtain⟨rfl,rfl,w,x,rfl,X,n⟩:=hcut;obtain⟨w2,r⟩:=nm wc;subst r;clear v0 v1 v2 U HU BI hE;go_wp2_with fail;go_loopw[17,5] (λb ac wr=>∃(a:Nat) (O:Option Addr) (A:Nat) (e:List Nat),a<=c/\b=ι κ a/\Hid (e=((List.range c).take a).filter l)/\ac=ψ O e.length A/\Hid (wr.ownsRow w2.heap.size 3 1 (ψ O e.length A) e.length (e.map mM))/\Hid (δ w2.heap.size w2 wr)) (λb _ _=>c - (intOf b).toNat);case atStart=>exact⟨0,ν,0,[],aK _,rfl,ak rfl,rfl,ak ⟨rfl,.inl ⟨rfl,rfl⟩⟩,ak (ah _ _)⟩
  case round=>
   obtain⟨a,O,A,e,hi,rfl,W,rfl,HO,y⟩:=hrel;by_cases z:a<c
   .have ju:(a:Int)<c:=(by omega);have j:=cq X.J y.J;have ui:(List.range c)[a]?=σ a:=eP z;have kJ:((List.range c).map λT=>i (rowOf B T))[a]?=σ (i (rowOf B a)):=(by rw[aV,ui];rfl);obtain⟨Q,R,e1,p1,qh,Z,-⟩:=OH (av.J a z);obtain⟨⟨d0,d1,d2,d3,d4⟩,-⟩:=jU j kJ qh;have V:=OI (f:=l) ui;rw[<- W.J]at V;have ao:pQ (i (rowOf B a))=l a:=(by rw[ar.J]);rw[ao]at Z;have WY:=ak V;have a8:e.length<=a:=(by rw[W.J];exact ag (fH _ _) (by simp;omega));have an:=aaT Q R e1 p1;rw[Z]at an;obtain⟨W2,M⟩:=nm (wr.alloc (obP Q R ⟨#[]⟩ e1 p1));have lx:=oJ M;have Nn:W2.heap[wr.heap.size]?=σ (obP Q R ⟨#[]⟩ e1 p1):=(by rw[M];exact au wr _);obtain⟨q0,q1,q2,q3,q4⟩:=tP Nn;have WR:=ak Nn;have uz:=ak M;clear M Nn j kJ qh V Z ao ui;go_wp2_with fail;rw[<- uz.J];go_cut[24] (λa5 P=>a5=.bool (l a)/\Hid (δ wr.heap.size wr P));(case first=>go_region_with(go_at_call 157;(with_reducible refine dQ (HT.J _) ?_);rintro ab w3 ⟨rfl,fI⟩;obtain⟨o0,o1,o2,o3,o4⟩:=tP ((fI.block _ (aw (w:=W2) WR.J)).trans WR.J);have I:=ak ((aH lx).trans (fI.mono lx.size));clear fI);(all_goals(try go_wp2_with fail));(all_goals go_meet);all_goals exact⟨by first|rfl|simp[Act.put],I⟩);case rest=>
     obtain⟨rfl,I⟩:=hcut;obtain⟨w3,r⟩:=nm wc;subst r;have t:=cq HO.J I.J;have v:=y.J.trans (I.J.mono y.J.size);clear q0 q1 q2 q3 q4 d0 d1 d2 d3 d4 an
     cases JY:l a with
     |false=>
       have yn:=t;have zO:=v;have p:Hid (e=((List.range c).take (a+1)).filter l):=ak (by rw[WY.J,JY];simp);clear t v JY;go_wp2_with fail;exact⟨⟨a+1,_,_,e,z,by go_num,p,rfl,yn,zO⟩,by simp[intOf];omega⟩
     |true=>
       have uk:=t.alloc (ξ #[ι κ a] 3 (0,0));have uj:=ak (World.news_of_block (au w3 (ξ #[ι κ a] 3 (0,0))));have p:Hid (e++[a]=((List.range c).take (a+1)).filter l):=ak (by rw[WY.J,JY];simp);have SD:=v.size;have zO:=v;have yn:=t;clear t v JY;go_wp2_with(at_builtin;refine cJ _ rfl _ _ 36 rfl w2.heap.size 3 j0 _ 1 8 underlying36 Ml Mn Mp Mq rfl (by decide) _ _ _ rfl uk (Ad w3.heap.size 0) 1 1 [ι κ a] rfl rfl uj.J (by simp[Value.oneCell']) (by decide) (by unfold maxLen;omega) (by omega) (by simp;omega) ?_;intro a1 eZ w4 bS bY dT);have ax:Hid (w4.ownsRow w2.heap.size 3 1 (ψ (σ (Ad a1 0)) (e++[a]).length eZ) (e++[a]).length ((e++[a]).map mM)):=ak (by rw[az,dY];exact bS);have yk:=(zO.alloc SD _).grown bY (by simp;omega) (λF hk=>(yn.lt F hk).1);clear bS bY dT
       (try go_wp2_with fail)
       go_roundw
       case rel=>exact⟨a+1,_,_,e++[a],z,by go_num,p,by simp,ax,yk⟩
       case measure=>simp[intOf];omega
   obtain rfl:a=c:=(by omega);have s:=W.J;rw[aI (by simp)]at s;have Jh:=ak s;clear s;have p:Hid (wr.ownsRow f.heap.size 3 1 (ψ O e.length A) e.length (e.map mM)):=ak (eB HO.J (ag (fL HZ.J) n.J.size));have HL:=m.trans ((n.J.trans (y.J.mono n.J.size)).mono m.size);go_wp2_with fail;go_ret;have s:=Jh.J;subst s;exact⟨_,rfl,p.J,HL⟩
abbrev BL(wv:Value)(s:KQ):Obj:=.cells #[wv,.int .i64 s.1,.int .i64 s.2.1,.int .i64 s.2.2] 215 (0,0)
theorem WZ{d:Type}{a:d->dj}{c e:List d}{b:d}(i:c[w]?=σ b)(g:kD a (c.take w)=.inr e):kD a (c.take (w+1))=match a b with
 |.inr q=>.inl q
 |.inl _=>.inr (e++if pQ (a b)then[b]else[]):=by
 rw[de,i,xp,g]
 cases hg:a b with
 |inr q=>simp[kD,dG,qN,hg]
 |inl f=>cases hk:pQ (.inl f)<;>simp[kD,dG,qN,hg,hk]
theorem Xa{c:Type}{b:c->dj}{a:List c}{q:Nat}(e:kD b (a.take w)=.inl q):kD b a=.inl q:=by
 have d:kD b a=kD b (a.take w++a.drop w):=by rw[gV]
 rw[d,xp,e]
theorem CP{c:Type}{d:c->dj}{a b:List c}(e:kD d a=.inr b):b.length<=a.length:=by rw[Eb e];exact fH _ _
theorem OJ{ac g:ω}{lo b:Nat}{wv bv rv:υ}{y:KQ}{B:List (List aD)}{c:List Nat}{ok:List aD->Prop}{A:List aD->dj}(hw:dJ ac lo wv ok A)(R:ft lo ac.heap.size ac g)(hF:∀row,ok row->∀k,A row=.inl k->rN k)(H:g.heap[b]?=σ (BL wv y))(e:eC g bv B)(P:gw g rv c)(oR:wU B c)(hl:c.length<=64)(X:∀a∈c,ok (rowOf B a))(W:y.2.1=0->y.1<=100000/\y.2.2=0) :
 Calls prog 128 #[π (σ (Ad b 0)),bv,rv] g λF w'=>∃ar,F=τ ar/\w'.ownsRow g.heap.size 3 1 ar (kZ (λa=>A (rowOf B a)) c y).1.length ((kZ (λa=>A (rowOf B a)) c y).1.map mM)/\w'.heap[b]?=σ (BL wv (kZ (λa=>A (rowOf B a)) c y).2)/\aX (λf=>f<g.heap.size/\f≠b) g w':=by
 obtain⟨aq,ap,rfl,hE,hC⟩:=hw;obtain⟨ba,iQ,rfl⟩:=e.slice;obtain⟨ra,rK,rfl⟩:=bu.slice P;obtain⟨i0,yG,lC,lI,kQ⟩:=iC Tryz.vP;obtain⟨l,se,sp⟩:=y;have vz:=aw H;obtain⟨p0,T,p2,p3⟩:=eo H;unfold Enters at hE;by_cases v:se=0;(case neg=>have Dy:((se:Int) != 0)=true:=(by simpa using v);have m:Hid (kZ (λa=>A (rowOf B a)) c (l,se,sp)=([],(l,se,sp))):=ak (by unfold kZ;rw[aF v]);rw[m.J];have HP:=ak H;clear R hF e P oR X H v hC m W;go_in;go_wp2_with fail;refine(JC _ _ _).mono ?_;rintro a w1 ⟨rfl,e⟩;have D:=(e.block b vz).trans HP.J;have p:=ak e;have K:=ak D;clear e D;go_wp2_with fail;go_ret;exact⟨_,rfl,⟨rfl,.inl ⟨rfl,rfl⟩⟩,K.J,⟨p.J.os,p.J.tape,p.J.output,p.J.size,λf e=>p.J.block f e.1⟩⟩);case pos=>
  subst v;obtain rfl:sp=0:=(W rfl).2;replace W:l<=100000:=(W rfl).1;have HT:=ak (λg=>td true g);have ao:Hid (yF (.inl (jL true))=χ #[.bool false,ι κ 1,θ ⟨#[]⟩,ι κ 0,ι κ 0]):=ak rfl;rw[ao.J]at HT;have BI:=ak (λ(f:ω) (u:δ g.heap.size g f)=>hC f ⟨ag R.1 u.size,λQ h1 h2=>(u.block Q (ai h2 R.1)).trans (R.2 Q h1 h2)⟩ _ B _ c (e.below u (ae _)) (bu.below P u (ae _)) oR hl X);have av:=ak (λa (r:a∈c) k hc=>hF _ (X a r) k hc);have HR:=ak P;have HP:=ak H;obtain⟨o,hG⟩:=nm (λa=>A (rowOf B a));have al:=ak hG;rw[<- hG];have e0:((((0:Nat):Int)) != 0)=false:=rfl;clear R hF e P oR X H hC hG ao;go_in;go_wp2_with fail;refine(JC _ _ _).mono ?_;rintro a w1 ⟨rfl,e⟩;have D:=(e.block b vz).trans HP.J;obtain⟨s0,s1,s2,s3⟩:=eo D;have Y0:=ak (BI.J w1 e);have p:=ak e;have K:=ak D;clear e D p0 T p2 p3;go_wp2_with fail;refine Y0.J.mono ?_;rintro F w2 ⟨ov,rfl,z,cG⟩;rw[<- al.J]at z;obtain⟨oa,qH,rfl,OE,-⟩:=cu z;have a0:=ak z;have aC:=ak OE;have x:=ak (p.J.trans (cG.mono p.J.size));have ab:=ak ((cG.block b (aw K.J)).trans K.J);clear z OE cG Y0 s0 s1 s2 s3 hE BI p K;go_wp2_with fail;go_loopw[23,7] (λk a4 wr=>∃(i:Nat) (va:Option Addr) (V:Nat) (d:List Nat),i<=c.length/\k=ι κ i/\Hid (kD o (c.take i)=.inr d)/\a4=ψ va d.length V/\Hid (wr.ownsRow w2.heap.size 3 1 (ψ va d.length V) d.length (d.map mM))/\Hid (δ w2.heap.size w2 wr)) (λk _ _=>c.length - (intOf k).toNat);case atStart=>exact⟨0,ν,0,[],aK _,rfl,ak rfl,rfl,ak ⟨rfl,.inl ⟨rfl,rfl⟩⟩,ak (ah _ _)⟩
  case round=>
   obtain⟨i,va,V,d,hi,rfl,HK,rfl,HO,t⟩:=hrel;have s:=(t.J.block b (aw ab.J)).trans ab.J;by_cases cL:i<c.length
   .have ju:(i:Int)<c.length:=(by omega);obtain⟨og,rfl,-⟩:=aC.J (by omega);have z:=cq a0.J t.J;obtain⟨a,I⟩:∃a,c[i]?=σ a:=⟨_,af cL⟩;have kJ:(c.map λρ=>o ρ)[i]?=σ (o a):=(by rw[aV,I];rfl);obtain⟨x1,y1,e1,T,qh,Nj,kR⟩:=OH (o:=o a) (by rw[al.J];exact av.J a (aA I));obtain⟨⟨d0,d1,d2,d3,d4⟩,-⟩:=jU z kJ qh;have E:=WZ I HK.J;have a2:d.length<=i:=ag (CP HK.J) (by simp;omega);obtain⟨rg,ro,UU,v,r0⟩:=gw.get (show gw wr _ c from bu.below (bu.below HR.J x.J (ae _)) t.J (ae _)) I;cases v;have N:=aaT x1 y1 e1 T;rw[Nj]at N;obtain⟨W2,Z⟩:=nm (wr.alloc (obP x1 y1 ⟨#[]⟩ e1 T));have lx:=oJ Z;have U:W2.heap[wr.heap.size]?=σ (obP x1 y1 ⟨#[]⟩ e1 T):=(by rw[Z];exact au wr _);have WR:=ak U;have ad:=ak lx;have uz:=ak Z;have NY:=ak I;clear Z lx z kJ qh Nj I;go_wp2_with fail;rw[<- uz.J];refine(JC _ _ _).mono ?_;rintro F w3 ⟨rfl,fI⟩;have Y:=ad.J.trans (fI.mono ad.J.size);have D9:=(fI.block _ (aw U)).trans U;obtain⟨o0,o1,o2,o3,o4⟩:=tP D9;have O:=(Y.block b (aw s)).trans s;obtain⟨s0,s1,s2,s3⟩:=eo O;have z2:=eR O 2;have z3:=eR O 3;have an:=ak O;have CD:=ak D9;have nF:=ak Y;have j:=ak (x.J.trans ((t.J.trans (Y.mono t.J.size)).mono x.J.size));clear fI Y D9 O s d0 d1 d2 d3 d4 U;rcases kR with⟨q,G,rfl,rfl⟩|⟨⟨k,G⟩,rfl,rfl⟩
    .rw[G]at E
     have m:Hid (kZ o c (l,0,0)=([],(l,9,q))):=ak (by unfold kZ;rw[aE (by simp),Xa E]);have fE:(((9:Int)) != 0)=true:=rfl;have Hu:=ak (λn aa=>(show((w3.setCell (Ad b 2) n).setCell (Ad b 3) aa).heap[b]?=σ (ξ #[.func (.func aq) #[] ap,ι κ l,n,aa] 215 (0,0))/\aX (λf=>f<g.heap.size/\f≠b) g ((w3.setCell (Ad b 2) n).setCell (Ad b 3) aa)from
      ⟨aN _ b 3 _ _ aa (aN _ b 2 _ _ n an.J),aX.setCell (p:=(Ad b 3)) (aX.setCell (p:=(Ad b 2)) ⟨j.J.os,j.J.tape,j.J.output,j.J.size,λf e=>j.J.block f e.1⟩ (λr=>r.2 rfl) _) (λr=>r.2 rfl) _⟩))
     clear E G N;go_wp2_with fail;go_ret;rw[m.J];exact⟨_,rfl,⟨rfl,.inl ⟨rfl,rfl⟩⟩,Hu.J _ _⟩
    rw[G]at E;have WY:=ak E;have fE:(((0:Int)) != 0)=false:=rfl;have JY:pQ (o a)=pQ (.inl k):=(by rw[G]);rw[JY]at N;obtain⟨kb,UE⟩:=nm (pQ (.inl k));rw[<- UE]at N;have am:=ak UE;clear E G JY UE;go_wp2_with fail;go_cut[38] (λa5 wx=>a5=.bool kb/\Hid (δ w3.heap.size w3 wx));(case first=>go_region_with(go_at_call 157;(with_reducible refine dQ (HT.J _) ?_);rintro F w4 ⟨rfl,mK⟩;obtain⟨q0,q1,q2,q3,q4⟩:=tP ((mK.block _ (aw (w:=w3) CD.J)).trans CD.J);have zO:=ak ((aH (ah w3.heap.size w3)).trans mK);clear mK);(all_goals(try go_wp2_with fail));(all_goals go_meet);all_goals exact⟨by first|rfl|simp[Act.put],zO⟩);case rest=>
     obtain⟨rfl,zO⟩:=hcut;obtain⟨w4,r⟩:=nm wc;subst r;have u:=nF.J.trans (zO.J.mono nF.J.size);have M:=cq HO.J u;have C:=t.J.trans (u.mono t.J.size);obtain⟨a8,a9,a6,v,r1⟩:=gw.get (show gw w4 _ c from bu.below (bu.below HR.J x.J (ae _)) C (ae _)) NY.J
     cases v
     clear o0 o1 o2 o3 o4 s0 s1 s2 s3 z2 z3 r0 N u
     cases kb with
     |false=>
       have ZN:=ak M;have yk:=ak C;have m:Hid (kD o (c.take (i+1))=.inr d):=ak (by rw[WY.J,<- am.J];simp);clear M C;go_wp2_with fail;exact⟨⟨i+1,_,_,d,cL,by go_num,m,rfl,ZN,yk⟩,by simp[intOf];omega⟩
     |true=>
       have uk:=ak (M.alloc (ξ #[ι κ a] 3 (0,0)));have uj:=ak (World.news_of_block (au w4 (ξ #[ι κ a] 3 (0,0))));have m:Hid (kD o (c.take (i+1))=.inr (d++[a])):=ak (by rw[WY.J,<- am.J];simp);have a3:=C.size;have yk:=ak C;have ZN:=ak M;clear M C;go_wp2_with(at_builtin;refine cJ _ rfl _ _ 36 rfl w2.heap.size 3 i0 _ 1 8 underlying36 yG lC lI kQ rfl (by decide) _ _ _ rfl uk.J (Ad w4.heap.size 0) 1 1 [ι κ a] rfl rfl uj.J (by simp[Value.oneCell']) (by decide) (by unfold maxLen;omega) (by omega) (by simp;omega) ?_;intro a1 eZ w5 bS bY dT);have ax:Hid (w5.ownsRow w2.heap.size 3 1 (ψ (σ (Ad a1 0)) (d++[a]).length eZ) (d++[a]).length ((d++[a]).map mM)):=ak (by rw[az,dY];exact bS);have FD:=ak ((yk.J.alloc a3 _).grown bY (by simp;omega) (λQ w=>(ZN.J.lt Q w).1));clear bS bY dT
       (try go_wp2_with fail)
       go_roundw
       case rel=>exact⟨i+1,_,_,d++[a],cL,by go_num,m,by simp,ax,FD⟩
       case measure=>simp[intOf];omega
   obtain rfl:i=c.length:=(by omega);have w:=HK.J;rw[eV]at w;have m:Hid (kZ o c (l,0,0)=(d,(l+d.length,0,0))):=ak (by unfold kZ;rw[aE (by simp),w]);have a2:=CP w;obtain⟨s0,s1,s2,s3⟩:=eo s;have z1:=eR s 1;have Y1:=aw s;have KE:IntKind.i64.wrap ((l:Int)+d.length)=l+d.length:=(by rw[jC];omega)
   have j:=ak (x.J.trans (t.J.mono x.J.size));have an:=ak s;have Hu:=ak (λn=>(show(wr.setCell (Ad b 1) n).heap[b]?=σ (ξ #[.func (.func aq) #[] ap,n,ι κ 0,ι κ 0] 215 (0,0))/\aX (λf=>f<g.heap.size/\f≠b) g (wr.setCell (Ad b 1) n)/\(wr.setCell (Ad b 1) n).ownsRow g.heap.size 3 1 (ψ va d.length V) d.length (d.map mM)from
    ⟨aN _ b 1 _ _ n s,aX.setCell (p:=(Ad b 1)) ⟨j.J.os,j.J.tape,j.J.output,j.J.size,λf e=>j.J.block f e.1⟩ (λr=>r.2 rfl) _,dH (eB HO.J x.J.size) (grownBy_setCell _ (Ad b 1) _) (λQ w F=>by cases w;have:=(HO.J.lt b F).1;have:=aw ab.J;have:=x.J.size;omega)⟩))
   clear w s;go_wp2_with fail;go_ret;rw[m.J];obtain⟨f1,f2,f3⟩:=Hu.J (ι κ (l+d.length));exact⟨_,rfl,f3,f1,f2⟩
structure aa4 (w w':ω)(cols:List br)(e:Ex)(p:Nat)(wv:υ)(a:ω)(lo:Nat):Prop where
 eW:w'.heap[p]?=σ (BL wv (0,0,0))
 work:dJ a lo wv (gI cols) (λrow=>cU cols row e)
 kept:ft lo a.heap.size a w'
 new:w.heap.size<=p
 low:w.heap.size<=lo
 off:p<lo\/a.heap.size<=p
 sX:δ w.heap.size w w'
theorem KT{w:ω}{cols:List br}{cv:υ}{a:Ex}{pl:Nat}(p:pz a)(u:cH cols a=.inl n)(f:ew w cv cols)(D:cols.length<=1000) :
 Calls prog 122 #[χ #[ι κ pl,oL a],cv] w λm x=>∃l b s v,m=τ (π (σ ⟨l,0,ν⟩))/\aa4 w x cols a l b s v:=by obtain⟨o,y,-⟩:=pb a;obtain⟨z,E,rfl⟩:=f.slice;have e:δ w.heap.size w (w.alloc (ξ #[ι κ pl,.iface o (qG a)] 261)):=(ah _ _).alloc (ae _) _;have i:=zc (by omega) a p n u (w.alloc (ξ #[ι κ pl,.iface o (qG a)] 261)) _ _ (f.below e (ae _)) (ae _);have g:=e;rw[y]at i ⊢;clear e f;go_in;go_wp2_with fail;refine i.mono ?_;rintro m w1 ⟨b,rfl,k,j⟩;have d:=g.trans (j.mono g.size);have c:δ w1.heap.size w1 (w1.alloc (BL b (0,0,0))):=(ah _ _).alloc (ae _) _;have r:Hid (aa4 w (w1.alloc (BL b (0,0,0))) cols a w1.heap.size b w1 (w.heap.size+1)):=ak ⟨au w1 _,by have:=k;simpa using this,⟨c.size,λn _ t=>c.block n t⟩,d.size,bE _,.inr (ae _),d.trans (c.mono d.size)⟩;obtain⟨C,A,rfl,-⟩:=k;clear j d c;go_wp2_with fail;go_ret;exact⟨_,_,_,_,rfl,r.J⟩
def nV(rows:List Nat)(B:List (List aD)):List (List aD):=B.map λc=>rows.map λr=>c.getD r fD
theorem Xf{B:List (List aD)}{a:List aD}(b:B[w]?=σ a):(nV i B)[w]?=σ (i.map λc=>a.getD c fD):=by unfold nV;rw[aV,b];rfl
theorem Xg(a:List Nat)(B:List (List aD)):(nV a B).length=B.length:=by simp[nV]
theorem Ie{b:List (List aD)}(c:∀a∈i,a<b.length):nV i (bh w b)=bh w (i.map λa=>b.getD a []):=by unfold nV bh;rw[ig];refine eO λe _=>?_;simp only[Function.comp,List.map_map];refine eO λa d=>?_;have:=c a d;simp[List.getD,List.getElem?_eq_getElem this]
theorem Ig(c:aD):∀b∈oE c,b.oneCell'=true:=by intro b a;simp[oE]at a;rcases a with rfl|rfl|rfl<;>rfl
theorem jO.sub{M':Nat->Prop}(d:jO v p)(e:∀a,M' a->v a):jO M' p:=λb i c g f=>d b i c g (e _ f)
theorem E5{base n:Nat}{kv cv:υ}{vs:List υ}{L B:List (List aD)}{rows:List Nat}(G:gu m base cv vs L)(Z:L.length=n)(W:B.length=n)(UR:0<n)(hn:n<=1000)(hb:ik (kd cv vs) m p B)(hr:gw m t rows)(a3:jO (kd cv vs) t)(oR:wU B rows)(a2:∀c∈L,c.length+rows.length<=1000)(D4:rows.length<=1000)(uw:base<=m.heap.size)(bc:∃i bi c,kv=ψ i bi c) :
 Calls prog 129 #[χ #[kv,cv],p,t] m λv w'=>v=τ (.tuple #[])/\∃pZ,ke m w' base cv vs pZ (tL L (nV rows B)):=by
 obtain⟨ka,km,kc,rfl⟩:=bc;obtain⟨j0,Ml,Mn,Mp,Mq⟩:=iC Tryz.zT;have Ih:=G.row;rw[Z]at Ih;obtain⟨ca,g,rfl,Xh,-⟩:=cu Ih;obtain⟨d,rfl,-⟩:=Xh UR;clear Ih Xh;obtain⟨ba,iQ,f⟩:=hb.batch.slice;subst f;obtain⟨ra,rK,f⟩:=bu.slice hr;subst f;obtain⟨y,hW⟩:=nm (m.alloc (wG ka km kc (σ (Ad d 0)) n g));have A:=oJ hW;have an:y.heap[m.heap.size]?=σ (wG ka km kc (σ (Ad d 0)) n g):=by rw[hW];exact au m _
 have HW:=ak hW;have Br:=ak A;have HS:=ak G;have ax:=ak (G.below A).here;have aq:=ak (G.below A);have aC:=ak an;have O:=ak hb;have HR:=ak hr;have av:=ak a3;have ao:=ak oR;have Wn:=ak a2;have E:Hid (L.length=(nV rows B).length):=ak (by rw[Xg,Z,W]);have x:=ak Z;have UI:Hid (∀wr s L1,ke y wr base (ψ (σ (Ad d 0)) n g) vs s L1->m.heap.size<=wr.heap.size/\(∀j,j<m.heap.size->¬kd (ψ (σ (Ad d 0)) n g) vs j->wr.heap[j]?=m.heap[j]?)/\wr.heap[m.heap.size]?=σ (wG ka km kc (σ (Ad d 0)) n g)):=ak λwr s L1 F=>
  ⟨ag A.size F.keep.size,λj V D=>(F.old (ai V A.size) D).trans (A.block j V),F.box aq.J an (by decide)⟩
 rw[W];clear G hb hr a3 oR a2 hW A an Z;go_in;go_wp2_with fail;rw[<- HW.J];have QE:m.heap.size<y.heap.size:=aw aC.J;go_loopw[12] (λc wr=>∃(a:Nat) (s:List υ),a<=n/\c=ι κ a/\Hid (ke y wr base (ψ (σ (Ad d 0)) n g) vs s (gy L (nV rows B) a))) (λc _=>n - (intOf c).toNat);case atStart=>exact⟨0,vs,aK _,rfl,by unfold gy;simpa using ax⟩
 case round=>
  obtain⟨a,s,hi,rfl,Q⟩:=hrel;by_cases R:a<n
  .have ju:(a:Int)<n:=(by omega);obtain⟨c,mR⟩:∃c,B[a]?=σ c:=⟨B[a]'(by omega),af _⟩;obtain⟨i,N⟩:∃i,L[a]?=σ i:=⟨L[a]'(by have:=x.J;omega),af _⟩;obtain⟨H,z,r⟩:=UI.J wr _ _ Q.J;obtain⟨bg,bo,bt,a5,f,a1,a0,o⟩:=O.J.batch.Mk mR;rw[W]at f;cases f;obtain⟨ua,nt,rfl⟩:=bu.slice o;have ac:Hid (∀K:ω,(∀j,j<m.heap.size->¬kd (ψ (σ (Ad d 0)) n g) vs j->K.heap[j]?=m.heap[j]?)->K.cell? (Ad bg (bo+a))=σ (ψ ua c.length nt)):=ak λK F=>(bZ (w:=m) (a:=(Ad bg (bo+a))) (F bg a1 (O.J.1 _ _ _ rfl))).trans a0;have b0:=ac.J wr z;obtain⟨u,hP⟩:=nm (rows.map λC=>c.getD C fD);have SF:(nV rows B)[a]?=σ u:=(by rw[hP];exact Xf mR)
   have qK:=Wn.J i (aA N);have al:Hid (ke y wr base (ψ (σ (Ad d 0)) n g) vs s ((gy L (nV rows B) a).set a (i++u.take 0))):=ak (by
    have v:(gy L (nV rows B) a).set a (i++u.take 0)=gy L (nV rows B) a:=by
     rw[lh,bQ];have w:=(BA E.J (by rw[x.J];exact R)).trans N;apply cB;intro be;rw[bH];by_cases hj:a=be
     . subst hj
       rw[aF rfl,aF (aj.mp w).1,w]
     . rw[aE hj]
    rw[v];exact Q.J)
   have UA:Hid ((gy L (nV rows B) a).set a (i++u)=gy L (nV rows B) (a+1)):=ak (Bz N SF E.J);have ad:Hid (∀ab,((gy L (nV rows B) a).set a ab).length=n/\((gy L (nV rows B) a).set a ab)[a]?=σ ab):=ak λab=>by
    have hl:(gy L (nV rows B) a).length=n:=by rw[xk E.J (by rw[x.J];exact hi),x.J]
    exact⟨by rw[ny,hl],by rw[bH,aF rfl,aF (by omega)]⟩
   obtain⟨J,hJ⟩:=nm (gy L (nV rows B) a);rw[<- hJ]at al UA ad;have UL:=ak mR;have ar:=ak hP;have Ww:Hid (u.length=rows.length):=ak (by rw[hP,aQ]);clear hJ SF hP N mR o H z r Q a1 a0;go_wp2_with fail;go_loopw[19] (λc K=>∃(k:Nat) (vs2:List υ),k<=rows.length/\c=ι κ k/\Hid (ke y K base (ψ (σ (Ad d 0)) n g) vs vs2 (J.set a (i++u.take k)))) (λc _=>rows.length - (intOf c).toNat);(case atStart=>exact⟨0,s,aK _,rfl,al⟩);case round=>
    obtain⟨k,vs2,hk,rfl,am⟩:=hrel;by_cases bb:k<rows.length
    .have bl:(k:Int)<rows.length:=(by omega);have l:=am.J;obtain⟨H,z,r⟩:=UI.J wr _ _ l;obtain⟨C,aa⟩:∃C,rows[k]?=σ C:=⟨_,af bb⟩;have Y6:=ao.J C (aA aa) c (aA UL.J);have bm:(C:Int)<c.length:=(by omega);obtain⟨b,hx⟩:∃b,c[C]?=σ b:=⟨_,af Y6⟩;obtain⟨rg,ro,UU,f,r0⟩:=gw.get (show gw wr _ rows from bu.moves HR.J av.J H z) aa;cases f;obtain⟨bS,bY,bx,u',f,-,b1,a4⟩:=(O.J.moves H z).batch.Mk UL.J;rw[W]at f;cases f;have b2:=ac.J wr z;rw[b1]at b2;cases b2;obtain⟨cg,co,NR,f,c0,c1,c2⟩:=mW.get a4 hx;cases f;obtain⟨e,hy⟩:=nm (i++u.take k);rw[<- hy]at l;obtain⟨Y,X⟩:=ad.J e;have bd:e.length<=1000:=(by rw[hy,az,bV];have:=Ww.J;omega);obtain⟨a5,o,-⟩:=l.own.each.cells X;have DA:=l.own.each.own a a5 _ o X;obtain⟨I,M,rfl,-,a9⟩:=cu DA;have T:=l.own.row;rw[Y]at T;have g1:wr.cell? (Ad d a)=σ (ψ I e.length M):=(T.cellAt a (by omega)).trans o;obtain⟨s0,s1⟩:=aR r;have OY:(J.set a e).set a (e++[b])=J.set a (i++u.take (k+1)):=(by rw[List.set_set,hy,de,ar.J,aV,aa];simp[List.getD,hx])
     have oH:δ wr.heap.size wr (wr.alloc (ru b.null b.n b.s)).drew:=aH ((ah _ _).alloc (ae _) _);have ap:=ak (λ(U eZ:Nat) (w3:ω) (V:w3.ownsRow base 229 3 (ψ (σ (Ad U 0)) (e.length+1) eZ) (e.length+1) (bI e++oE b)) (D:(wr.alloc (ru b.null b.n b.s)).drew.grownBy w3 (Value.slice I e.length M).ownBlock) (h3:(Value.slice I e.length M).ownBlock=σ U\/U=wr.heap.size+1)=>l.WL Y o X oH V D (h3.imp id (λv=>by omega)));rw[OY]at ap;have QF:=ak (λ(w3:ω) (D:(wr.alloc (ru b.null b.n b.s)).drew.grownBy w3 (Value.slice I e.length M).ownBlock)=>(show((∃b,w3.cell? (Ad d a)=σ b)/\w3.frozen? (Ad d a)=false)/\w3.cell? (Ad m.heap.size 1)=σ (ψ (σ (Ad d 0)) n g)from
      ⟨l.seen Y R o oH D,(aR ((D.block _ (by have:=aw r;show _<(wr.heap.push _).size;rw[dM];omega) (λv=>l.own.FM r (by decide) (.inr ⟨_,aA o,v.symm⟩))).trans ((oH.block _ (aw r)).trans r))).2⟩))
     have uk:=ak ((DA.alloc (ru b.null b.n b.s)).drew);have uj:=ak (World.news_of_block (w:=(wr.alloc (ru b.null b.n b.s)).drew) (B:=wr.heap.size) (au wr (ru b.null b.n b.s)));have vW:Hid ((wr.alloc (ru b.null b.n b.s)).drew.heap.size=wr.heap.size+1):=ak (by show(wr.heap.push _).size=_;rw[dM]);have bw:=(T.lt d rfl).2;have b3:=aw r;have Wm:Hid (e.length+1<=maxLen):=ak (by unfold maxLen;omega);have OZ:Hid ((e.length+1)*32<=140737488355328):=ak (by omega);have Jk:Hid (base<=(wr.alloc (ru b.null b.n b.s)).drew.heap.size):=ak (by rw[vW.J];omega);clear T l DA o X Y a4 hx aa H z r hy OY oH bd a9 Y6 ac;clear al am O HR av ao Wn UI ax aq aC UA ad UL ar Ww E x HS Br qK;go_wp2_with fail;go_region_law(refine step_append_lies _ rfl (.tmp 30) (.tmp 35) 230 rfl base 229 j0 _ 3 32 underlying230 Ml Mn Mp Mq rfl (by decide) (ψ I e.length M) e.length (bI e) rfl uk.J (Ad wr.heap.size 0) 1 1 (oE b) rfl rfl uj.J (Ig b) (by decide) Wm.J OZ.J Jk.J (wr.heap.size+1) vW.J ?_;intro U eZ w3 oG j9 uE _;obtain⟨⟨⟨xx,d0⟩,fz⟩,r3⟩:=QF.J w3 j9;have yn:=ak oG;have a6:=ak j9;have EV:=ak uE;clear oG j9 uE);all_goals have a8:=ak (ap.J _ _ _ yn.J a6.J EV.J);(try go_wp2_with fail);go_roundw;(case rel=>exact⟨k+1,_,by omega,by go_num,a8⟩);case measure=>simp[intOf];omega
    obtain rfl:k=rows.length:=by omega
    have P:Hid (ke y wr base (ψ (σ (Ad d 0)) n g) vs vs2 (gy L (nV rows B) (a+1))):=ak (by
     have w:=am.J;rw[aI (by rw[Ww.J];exact ae _),UA.J]at w;exact w)
    go_wp2_with fail
    first
    |exact⟨⟨a+1,vs2,R,by go_num,P⟩,by simp[intOf];omega⟩
    | (go_roundw
       case rel=>exact⟨a+1,vs2,R,by go_num,P⟩
       case measure=>simp[intOf];omega)
  obtain rfl:a=n:=by omega
  have P:Hid (ke m wr base (ψ (σ (Ad d 0)) a g) vs s (tL L (nV rows B))):=ak (by
   have w:=Q.J.from Br.J
   have v:gy L (nV rows B) a=tL L (nV rows B):=by
    unfold gy;rw[List.drop_of_length_le (by rw[x.J];exact ae _),bQ,aI (by rw[pO E.J,x.J];exact ae _)]
   rw[v]at w;exact w)
  go_wp2_with fail;refine bodyPost_end (sV rfl _ _ _) rfl ?_;exact⟨rfl,s,P.J⟩
structure Jl where
 wv:υ
 a:ω
 lo:Nat
 F:List aD->dj
structure ajP (w:ω)(ok:List aD->Prop)(x:Jl):Prop where
 work:dJ x.a x.lo x.wv ok x.F
 kept:ft x.lo x.a.heap.size x.a w
def xu(ws:List Jl)(row:List aD):Nat ⊕ List aD:=dG (λx:Jl=>qN (x.F row)) ws
theorem Xi{b:Nat}{d:TypeId}{l:List υ}(g:m.ownsRow w x s p o r)(i:m.ownsRow n d c t y l)(k:x≠d)(j:p.ownBlock=σ b):t.ownBlock≠σ b:=λf=>by
 obtain⟨u,e⟩:=qk g j;obtain⟨v,a⟩:=qk i f;rw[e]at a
 cases a
 exact k rfl
theorem eJ{w1 w2:ω}{base:Nat}{size:Nat}(b:w1.ownsRow base x size p w r)(f:∀a,p.ownBlock=σ a->w2.heap[a]?=w1.heap[a]?):w2.ownsRow base x size p w r:=by
 refine⟨b.1,?_⟩;rcases b.2 with e|⟨q,d,cur,c,i,g,j⟩
 {exact .inl e};exact .inr ⟨q,d,cur,c,i,(f q (by rw[c];rfl)).trans g,j⟩
theorem Ej{d e:Type}{a:d->Nat ⊕ e}{b:List d}{bs:List e}{c:d}(i:b[w]?=σ c)(g:dG a (b.take w)=.inr bs):dG a (b.take (w+1))=match a c with
 |.inl j=>.inl j
 |.inr f=>.inr (bs++[f]):=by
 rw[de,i,om,g]
 cases hf:a c<;>simp[dG,hf]
theorem KU{c f:Type}{b:c->Nat ⊕ f}{a:List c}{i:Nat}(e:dG b (a.take i)=.inl w):dG b a=.inl w:=by
 have d:dG b a=dG b (a.take i++a.drop i):=by rw[gV]
 rw[d,om,e]
theorem ke.Ek{w1 wr:ω}{base:Nat}{cv:υ}{yY vs:List υ}{L:List (List aD)}(a:ke w1 wr base cv yY vs L)(o:wr.heap[w]?=σ (ξ l x (0,0)))(m:x≠230/\x≠229)(p:w1.heap.size<=w)(b:υ):ke w1 (wr.setCell ⟨w,n,ν⟩ b) base cv yY vs L:=by have g:=a.own.FM o m;exact⟨⟨eJ a.own.row (λd e=>ay _ _ _ _ (show d≠w fromλc=>g (.inl (c ▸ e)))),⟨a.own.each.len,λn b i f j=>eJ (a.own.each.own n b i f j) (λd e=>ay _ _ _ _ (show d≠w fromλc=>g (.inr ⟨b,aA f,c ▸ e⟩))),a.own.each.apart⟩,a.own.off⟩,a.fresh,a.keep.setCell (λk=>by have:=k.1;dsimp only at this;omega) _⟩
def an0(w w':ω)(base:Nat)(cv:υ)(vs:List υ)(n:Nat)(R:List (List aD))(E:Nat ⊕ List (List aD))(e:Ending):Prop:=
 (∀p,E=.inl p->e=τ (χ #[ι κ 9,ι κ p])/\∃pZ L',ke w w' base cv vs pZ L')/\∀Rs,E=.inr Rs->e=τ (χ #[ι κ 0,ι κ 0])/\∃pZ,ke w w' base cv vs pZ (bh n (R++Rs))
theorem Tryz.Xj:(prog.info? 296).map (λa=>(a.zero,a.size,a.bytes))=σ (σ (ψ ν 0 0),1,24):=by kernel_rfl
theorem J1{w:ω}{base N:Nat}{kv cv:υ}{vs:List υ}{R B:List (List aD)}{e:List Jl}{ok:List aD->Prop}(hs:gu w base cv vs (bh e.length R))(UR:0<e.length)(hn:e.length<=1000)(hb:eC w p B)(DN:0<B.length)(a1:∀b∈B,b.length=N)(hN:N<=64)(mQ:∀f,f<N->ok (rowOf B f))(hw:bu w 1 t e.length (e.map (·.wv)))(FR:∀a∈e,ajP w ok a)(ck:R.length<=900)(uw:base<=w.heap.size)(b1:∃bx b6 b,kv=ψ bx b6 b) :
 Calls prog 313 #[χ #[kv,cv],p,t] w λC w'=>an0 w w' base cv vs e.length R (dG (λf=>xu e (rowOf B f)) (List.range N)) C:=by
 obtain⟨ka,km,kc,rfl⟩:=b1;obtain⟨j0,Ml,Mn,Mp,Mq⟩:=iC Tryz.zT;obtain⟨i0,yG,lC,lI,kQ⟩:=iC Tryz.Xj;have Ih:=hs.row;rw[bB]at Ih;obtain⟨ca,x,rfl,Xh,-⟩:=cu Ih;obtain⟨r,rfl,-⟩:=Xh UR;clear Ih Xh;obtain⟨ba,iQ,O⟩:=hb.slice;subst O;obtain⟨wa,b9,O⟩:=bu.slice hw;subst O;obtain⟨d,Un⟩:=nm e.length;rw[<- Un]at hs UR hn hw ⊢;obtain⟨ab,hW⟩:=nm ((w.alloc (wG ka km kc (σ ⟨r,0,ν⟩) d x)).alloc (gY 0 0));obtain⟨mL,av,a3⟩:=fX w (wG ka km kc (σ ⟨r,0,ν⟩) d x) (gY 0 0);rw[<- hW]at mL av a3;obtain⟨c0,FG⟩:∃b,B[0]?=σ b:=⟨_,af DN⟩;have K:=ak (rO (hb.below mL (ae _)) FG);rw[a1 c0 (aA FG)]at K;have HU:=ak (CM N (by omega) ab);have BI:=ak (λ(a:Jl) (s:a∈e) (n:ω) (Ht:δ w.heap.size w n) rv (G:gw n rv (List.range N))=>(show∃y ac,a.wv=.func (.func y) #[] ac/\Enters y/\Calls prog y (#[ψ ba B.length iQ,rv]++ac) n (λf b'=>∃bl,f=τ bl/\b'.ownsRow n.heap.size 298 5 bl N (((List.range N).map λf=>a.F (rowOf B f)).flatMap j7)/\δ n.heap.size n b')from by
  obtain⟨y,ac,i,l,h3⟩:=(FR a s).work;have np:=(FR a s).kept;have:=h3 n ⟨ag np.1 Ht.size,λy i l=>(Ht.block y (ai l np.1)).trans (np.2 y i l)⟩ (ψ ba B.length iQ) B rv (List.range N) (hb.below Ht (ae _)) G (λa s b hc=>by rw[a1 b hc];exact dB.mp s) (by rw[cV];exact hN) (λa s=>mQ a (dB.mp s));rw[cV]at this;exact⟨y,ac,i,l,this⟩))
 have am:=ak Un;have HW:=ak hW;have Br:=ak mL;have HS:=ak hs;have bt:=ak av;have bw:=ak a3;have RG:=ak hw;have cl:w.heap.size+1<ab.heap.size:=aw av;clear hs hb DN a1 mQ hw FR hW mL av a3 FG Un;go_in;go_wp2_with fail;rw[<- HW.J];refine K.J.mono ?_;rintro C w' ⟨rfl,b3⟩;have LJ:=b3.symm;subst LJ;go_wp2_with fail;refine HU.J.mono ?_;rintro C w1 ⟨rv,rfl,G,cx⟩;obtain⟨ra,rK,rfl,-,-⟩:=cu G;have zg:=ak G;have gq:=ak cx;clear G cx HU K;go_wp2_with fail;have bc:Hid (∀wr,δ w1.heap.size w1 wr->δ w.heap.size w wr/\δ ab.heap.size ab wr):=ak λwr Z=>by
  have i:=gq.J.trans (Z.mono gq.J.size);exact⟨Br.J.trans (i.mono Br.J.size),i⟩
 go_loopw[20,8] (λb b7 wr=>∃(c:Nat) (va:Option Addr) (ao:Nat) (D:List υ),c<=d/\b=ι κ c/\b7=ψ va c ao/\Hid (wr.ownsRow w1.heap.size 296 1 (ψ va c ao) c D)/\Hid (∀(m:Nat) (j:υ) (a:Jl),D[m]?=σ j->e[m]?=σ a->wr.ownsRow w1.heap.size 298 5 j N (((List.range N).map λf=>a.F (rowOf B f)).flatMap j7))/\Hid (δ w1.heap.size w1 wr)) (λb _ _=>d - (intOf b).toNat);case atStart=>exact⟨0,ν,0,[],aK _,rfl,rfl,ak ⟨rfl,.inl ⟨rfl,rfl⟩⟩,ak (λm j a Z=>by simp at Z),ak (ah _ _)⟩
 case round=>
  obtain⟨c,va,ao,D,hi,rfl,rfl,Q,HM,M⟩:=hrel;obtain⟨jF,ia⟩:=bc.J wr M.J;by_cases cL:c<d
  .have ju:(c:Int)<d:=(by omega);obtain⟨a,s⟩:∃a,e[c]?=σ a:=⟨e[c]'(by rw[<- am.J];exact cL),af _⟩;obtain⟨wg,wo,ci,O,-,cn,bg⟩:=bu.at (bu.below RG.J jF (ae _)) UR;cases O;have x0:=bg c a.wv (by rw[aV,s];rfl);obtain⟨y,ac,bi,hE,hC⟩:=BI.J a (aA s) wr jF (ψ ra N rK) (by unfold gw;rw[cV];exact bu.below (bu.eY zg.J) M.J (ae _));rw[bi]at x0;unfold Enters at hE;have KM:D.length=c:=(by have:=Q.J.1;omega);have HC:=ak hC;have HX:=ak s;have qg:=ak ia;clear hC s ia jF bg bi;go_wp2_with fail;refine HC.J.mono ?_;rintro C w2 ⟨ov,rfl,AB,cG⟩;obtain⟨oa,qH,rfl,-,-⟩:=cu AB;have oW:=M.J.trans (cG.mono M.J.size);have a2:=cq Q.J cG;have uk:=ak (a2.alloc (ξ #[ψ oa N qH] 296 (0,0)));have uj:=ak (World.news_of_block (au w2 (ξ #[ψ oa N qH] 296 (0,0))));have OZ:Hid (∀(m:Nat) (j:υ) (a:Jl),(D++[ψ oa N qH])[m]?=σ j->e[m]?=σ a->w2.ownsRow w1.heap.size 298 5 j N (((List.range N).map λf=>a.F (rowOf B f)).flatMap j7)):=ak λm j k i l=>by
    rw[iz]at i;split at i
    . exact cq (HM.J m j k i l) cG
    . have hj:m=c:=by
       have:=(aj.mp i).1;simp at this;omega
      subst hj;rw[KM,da]at i
      cases i
      rw[HX.J]at l
      cases l
      exact eB AB M.J.size
   have b5:=oW.size;have jl:=ak oW;have xQ:=ak a2;clear AB cG oW a2 HC hE x0;go_wp2_with(at_builtin;refine cJ _ rfl (.tmp 24) (.tmp 29) 454 rfl w1.heap.size 296 i0 _ 1 24 underlying454 yG lC lI kQ rfl (by decide) _ _ _ rfl uk.J ⟨w2.heap.size,0,ν⟩ 1 1 [ψ oa N qH] rfl rfl uj.J (by simp[Value.oneCell']) (by decide) (by unfold maxLen;omega) (by omega) (by simp;omega) ?_;intro g eZ w3 bS bY dT);have yn:=ak bS;have nF:=ak ((jl.J.alloc b5 _).grown bY (by simp;omega) (λy hk=>(xQ.J.lt y hk).1));have Jk:Hid (∀(m:Nat) (j:υ) (a:Jl),(D++[ψ oa N qH])[m]?=σ j->e[m]?=σ a->w3.ownsRow w1.heap.size 298 5 j N (((List.range N).map λf=>a.F (rowOf B f)).flatMap j7)):=ak λm j k i l=>dH ((OZ.J m j k i l).alloc _) bY (λy hk=>Xi xQ.J (OZ.J m j k i l) (by decide) hk);clear bS bY dT;(try go_wp2_with fail);go_roundw;(case rel=>exact⟨c+1,_,_,_,by omega,by go_num,rfl,yn,Jk,nF⟩);case measure=>simp[intOf];omega
  obtain rfl:d=c:=by omega
  obtain⟨w2,LJ⟩:=nm wr;subst LJ;have KM:D.length=d:=by have:=Q.J.1;omega
  obtain⟨mg,b2⟩:∃mg,va=σ ⟨mg,0,ν⟩:=(by rcases Q.J.2 with⟨C,h0⟩|⟨g,cp,cur,C,-⟩;{omega};cases C;exact⟨_,rfl⟩);subst b2;have Au:=HS.J.below (show δ w.heap.size w w2 from jF);have cb:=M.J.size;have a8:Hid (∀n,kd (ψ (σ ⟨r,0,ν⟩) d x) vs n->n<w.heap.size):=ak λn hb=>(HS.J.inside hb).2;have cc:ab.heap.size<=w1.heap.size:=gq.J.size;have UI:Hid (∀wr W L1,ke w2 wr base (ψ (σ ⟨r,0,ν⟩) d x) vs W L1->wr.ownsRow w1.heap.size 296 1 (ψ (σ ⟨mg,0,ν⟩) d ao) d D/\(∀(m:Nat) (j:υ) (a:Jl),D[m]?=σ j->e[m]?=σ a->wr.ownsRow w1.heap.size 298 5 j N (((List.range N).map λf=>a.F (rowOf B f)).flatMap j7))/\gw wr (ψ ra N rK) (List.range N)/\wr.heap[w.heap.size]?=σ (wG ka km kc (σ ⟨r,0,ν⟩) d x)/\wr.heap[w.heap.size+1]?=σ (gY 0 0)/\w2.heap.size<=wr.heap.size):=ak λwr W L1 Z=>by
   have ad:∀n,w.heap.size<=n->n<w2.heap.size->wr.heap[n]?=w2.heap[n]?:=λn i l=>Z.old l (λhs=>by have:=a8.J n hs;omega);refine⟨eJ Q.J (λg H=>?_),λm j a i l=>eJ (HM.J m j a i l) (λg H=>?_),?_,(ad _ (ae _) (by omega)).trans ((ia.block _ (by omega)).trans bw.J),(ad _ (bE _) (by omega)).trans ((ia.block _ (by omega)).trans bt.J),Z.keep.size⟩
   . have:=Q.J.lt g H
     exact ad g (by omega) this.2
   . have:=(HM.J m j a i l).lt g H
     exact ad g (by omega) this.2
   . have G:=cq zg.J M.J
     have:=eJ G (w2:=wr) (λg H=>ad g (by have:=G.lt g H;omega) (G.lt g H).2);unfold gw;rw[cV];exact bu.eY this
  have NT:=ak Au.here;have UW:=ak jF;clear jF Au ia;go_wp2_with fail;go_loopw[34] (λb wr=>∃(o:Nat) (W:List υ) (A:List (List aD)),o<=N/\b=ι κ o/\Hid (dG (λf=>xu e (rowOf B f)) ((List.range N).take o)=.inr A)/\Hid (ke w2 wr base (ψ (σ ⟨r,0,ν⟩) d x) vs W (bh d (R++A)))) (λb _=>N - (intOf b).toNat);case atStart=>exact⟨0,vs,[],aK _,rfl,ak rfl,by simpa using NT⟩
  case round=>
   obtain⟨o,W,A,hρ,rfl,Zb,Y⟩:=hrel;by_cases uX:o<N
   .have cg:(o:Int)<N:=(by omega);obtain⟨-,-,be,-⟩:=UI.J wr _ _ Y.J;have a5:(List.range N)[o]?=σ o:=eP uX;obtain⟨rg,ro,UU,O,r0⟩:=gw.get be a5;rw[cV]at O;cases O;obtain⟨row,T⟩:=nm (rowOf B o);obtain⟨g,H⟩:=nm (λa=>match a.F row with|.inl b=>b|.inr _=>fD:Jl->aD);have cd:A.length<=o:=(by have:=zW Zb.J;rw[this];simp;omega);obtain⟨v,ar⟩:∃v,v=R++A:=⟨_,rfl⟩;have b0:v.length<=970:=(by rw[ar,az];omega);have bd:Hid (ke w2 wr base (ψ (σ ⟨r,0,ν⟩) d x) vs W (gy (bh d v) (bh d [e.map g]) 0)):=(by unfold gy;rw[ar];simpa using Y);have Qz:=ak ar;have a6:=ak H;have K:=ak T;have NY:=ak a5;clear be ar H T a5;go_wp2_with fail;go_loopw[40] (λb wx=>∃(c:Nat) (vs2:List υ),c<=d/\b=ι κ c/\Hid (dG (λa:Jl=>qN (a.F row)) (e.take c)=.inr ((e.take c).map g))/\Hid (ke w2 wx base (ψ (σ ⟨r,0,ν⟩) d x) vs vs2 (gy (bh d v) (bh d [e.map g]) c))) (λb _=>d - (intOf b).toNat);(case atStart=>exact⟨0,W,aK _,rfl,ak rfl,bd⟩);case round=>
     obtain⟨c,vs2,hi,rfl,aC,SH⟩:=hrel;by_cases aa:c<d
     .have ce:(c:Int)<d:=by omega
      have hR:=SH.J;obtain⟨kO,kM,-,z,u,kz⟩:=UI.J wr _ _ hR;obtain⟨a,s⟩:∃a,e[c]?=σ a:=⟨e[c]'(by rw[<- am.J];exact aa),af _⟩;obtain⟨j,F⟩:∃j,D[c]?=σ j:=⟨D[c]'(by omega),af _⟩;have m0:=(kO.cellAt c (by omega)).trans F;have P:=kM c j a F s;obtain⟨oa,qH,rfl,OE,-⟩:=cu P;obtain⟨og,rfl,-⟩:=OE (by omega);have kJ:((List.range N).map λf=>a.F (rowOf B f))[o]?=σ (a.F row):=by rw[aV,NY.J,K.J];rfl
      obtain⟨x1,y1,z1,e1,p1,qh,-⟩:=jw (a.F row);obtain⟨⟨d0,d1,d2,d3,d4⟩,-⟩:=jU P kJ qh;have Kw:=Ej s aC.J;obtain⟨W2,qM⟩:=nm (wr.alloc (obP x1 y1 z1 e1 p1));have lx:=oJ qM;have Nn:W2.heap[wr.heap.size]?=σ (obP x1 y1 z1 e1 p1):=by rw[qM];exact au wr _
      have WR:=ak Nn;have ax:=ak lx;have uz:=ak qM;have HX:=ak s;have a0:=ak qh;have tD:=ak Kw;clear qM lx P kJ F s kO kM z u OE Nn qh Kw;go_wp2_with fail;rw[<- uz.J];refine(JC _ _ _).mono ?_;rintro C w3 ⟨rfl,fI⟩;have nB:=ax.J.trans (fI.mono ax.J.size);have D9:=(fI.block _ (aw WR.J)).trans WR.J;have E:=hR.below nB;obtain⟨-,-,-,z,u,-⟩:=UI.J w3 _ _ E;obtain⟨o0,o1,o2,o3,o4⟩:=tP D9
      cases hF:a.F row with
      |inr q=>
        have U:=a0.J;rw[hF]at U;simp[j7]at U;obtain⟨rfl,rfl,rfl,rfl,rfl⟩:=U;have X:Hid (dG (λf=>xu e (rowOf B f)) (List.range N)=.inl q):=ak (by
         have i:xu e (rowOf B o)=.inl q:=by
          rw[<- K.J];refine KU (i:=c+1) ?_;rw[tD.J,hF];rfl
         refine KU (i:=o+1) ?_;rw[Ej NY.J Zb.J,i])
        obtain⟨f0,f1⟩:=aR u;have z0:=eR u 0;have z1:=eR u 1;have tN:=ak (λa k=>(show∃pZ L',ke w ((w3.setCell ⟨w.heap.size+1,0,ν⟩ a).setCell ⟨w.heap.size+1,1,ν⟩ k) base (ψ (σ ⟨r,0,ν⟩) d x) vs pZ L' from⟨_,_,((E.from UW.J).Ek u (by decide) (bE _) a).Ek (aN _ _ 0 _ _ a u) (by decide) (bE _) k⟩));clear hR E nB fI D9 z u SH d0 d1 d2 d3 d4 m0;go_wp2_with fail
        (try simp only[Exit.inBlock,Exit.then])
        refine aB (v:=_) (by simp[results,results313,go_sem,f0,f1];rfl) rfl ?_;rw[X.J];exact⟨λb8 V=>by cases V;exact⟨rfl,tN.J _ _⟩,λA V=>nomatch V⟩
      |inl b=>
        have U:=a0.J;rw[hF]at U;simp[j7]at U;obtain⟨rfl,rfl,rfl,rfl,rfl⟩:=U;obtain⟨k,hy⟩:=nm (v.map λf=>f.getD c fD);have b4:k.length<=970:=by rw[hy,aQ];exact b0
        have an:(bh d v).length=(bh d [e.map g]).length:=by rw[bB,bB]
        have ap:(gy (bh d v) (bh d [e.map g]) c)[c]?=σ k:=by rw[hy];exact(BA an (by rw[bB];exact aa)).trans (gA aa)
        have aq:(gy (bh d v) (bh d [e.map g]) c).length=d:=by rw[xk an (by rw[bB];exact hi),bB]
        obtain⟨j,F,-⟩:=E.own.each.cells ap;have P:=E.own.each.own c j _ F ap;obtain⟨al,ze,rfl,-,-⟩:=cu P;have T:=E.own.row;rw[aq]at T;have g1:w3.cell? ⟨r,c,ν⟩=σ (ψ al k.length ze):=(T.cellAt c (by omega)).trans F;obtain⟨s0,s1⟩:=aR z;have a4:g a=b:=by rw[a6.J];simp only[hF]
        have OY:(gy (bh d v) (bh d [e.map g]) c).set c (k++[b])=gy (bh d v) (bh d [e.map g]) (c+1):=by
         refine Bz (by rw[hy];exact gA aa) ?_ an;rw[gA aa];simp[List.getD,HX.J,a4]
        have VG:Hid (dG (λa:Jl=>qN (a.F row)) (e.take (c+1))=.inr ((e.take (c+1)).map g)):=ak (by rw[tD.J,hF,de,HX.J];simp[qN,a4]);have oH:δ w3.heap.size w3 (w3.alloc (ru b.null b.n b.s)).drew:=aH ((ah _ _).alloc (ae _) _);have a9:=ak (λ(g2 eZ:Nat) (I:ω) (i:I.ownsRow base 229 3 (ψ (σ ⟨g2,0,ν⟩) (k.length+1) eZ) (k.length+1) (bI k++oE b)) (l:(w3.alloc (ru b.null b.n b.s)).drew.grownBy I (Value.slice al k.length ze).ownBlock) (h3:(Value.slice al k.length ze).ownBlock=σ g2\/g2=w3.heap.size+1)=>E.WL aq F ap oH i l (h3.imp id (λC=>by omega)));rw[OY]at a9;have QF:=ak (λ(I:ω) (l:(w3.alloc (ru b.null b.n b.s)).drew.grownBy I (Value.slice al k.length ze).ownBlock)=>(show((∃a,I.cell? ⟨r,c,ν⟩=σ a)/\I.frozen? ⟨r,c,ν⟩=false)/\I.cell? ⟨w.heap.size,1,ν⟩=σ (ψ (σ ⟨r,0,ν⟩) d x)from
         ⟨E.seen aq aa F oH l,(aR ((l.block _ (by have:=aw z;show _<(w3.heap.push _).size;rw[dM];omega) (λC=>E.own.FM z (by decide) (.inr ⟨_,aA F,C.symm⟩))).trans ((oH.block _ (aw z)).trans z))).2⟩))
        have uk:=ak ((P.alloc (ru b.null b.n b.s)).drew);have uj:=ak (World.news_of_block (w:=(w3.alloc (ru b.null b.n b.s)).drew) (B:=w3.heap.size) (au w3 (ru b.null b.n b.s)));have vW:Hid ((w3.alloc (ru b.null b.n b.s)).drew.heap.size=w3.heap.size+1):=ak (by show(w3.heap.push _).size=_;rw[dM]);have cf:=(T.lt r rfl).2;have cm:=aw z;have co:=aw D9;have Wm:Hid (k.length+1<=maxLen):=ak (by unfold maxLen;omega);have OZ:Hid ((k.length+1)*32<=140737488355328):=ak (by omega);have Jk:Hid (base<=(w3.alloc (ru b.null b.n b.s)).drew.heap.size):=ak (by rw[vW.J];omega);clear T hR E P F ap aq hy OY oH b4 a4 an hF nB fI D9 z u kz d0 d1 d2 d3 d4 m0;clear Y bd Zb aC SH UI tD HX a0 WR ax uz HM Q HS NT am bc zg RG BI M a6 Qz K NY a8;go_wp2_with fail;go_region_law(refine step_append_lies _ rfl (.tmp 62) (.tmp 65) 230 rfl base 229 j0 _ 3 32 underlying230 Ml Mn Mp Mq rfl (by decide) (ψ al k.length ze) k.length (bI k) rfl uk.J ⟨w3.heap.size,0,ν⟩ 1 1 (oE b) rfl rfl uj.J (Ig b) (by decide) Wm.J OZ.J Jk.J (w3.heap.size+1) vW.J ?_;intro g2 eZ I oG j9 uE _;obtain⟨⟨⟨xx,d0⟩,fz⟩,r3⟩:=QF.J I j9;have yn:=ak oG;have bm:=ak j9;have EV:=ak uE;clear oG j9 uE)
        all_goals
         have bo:=ak (a9.J _ _ _ yn.J bm.J EV.J)
         (try go_wp2_with fail)
         go_roundw
         case rel=>exact⟨c+1,_,by omega,by go_num,VG,bo⟩
         case measure=>simp[intOf];omega
     obtain rfl:d=c:=by omega
     have X:Hid (dG (λf=>xu e (rowOf B f)) ((List.range N).take (o+1))=.inr (A++[e.map g])):=ak (by
      have i:xu e (rowOf B o)=.inr (e.map g):=by
       have l:=aC.J;rw[aI (by rw[<- am.J];exact ae _)]at l;rw[<- K.J];exact l
      rw[Ej NY.J Zb.J,i])
     have bb:Hid (ke w2 wr base (ψ (σ ⟨r,0,ν⟩) d x) vs vs2 (bh d (R++(A++[e.map g])))):=ak (by
      have h9:=SH.J;have e9:gy (bh d v) (bh d [e.map g]) d=bh d (v++[e.map g]):=by
       rw[<- uF];unfold gy;rw[List.drop_of_length_le (by rw[bB];exact ae _),bQ,aI (by rw[pO (by rw[bB,bB]),bB];exact ae _)]
      rw[e9,Qz.J,cj]at h9;exact h9)
     go_wp2_with fail
     first
     |exact⟨⟨o+1,vs2,_,uX,by go_num,X,bb⟩,by simp[intOf];omega⟩
     | (go_roundw
        case rel=>exact⟨o+1,vs2,_,uX,by go_num,X,bb⟩
        case measure=>simp[intOf];omega)
   obtain rfl:N=o:=(by omega)
   have X:Hid (dG (λf=>xu e (rowOf B f)) (List.range N)=.inr A):=ak (by
    have h9:=Zb.J;rw[aI (by simp)]at h9;exact h9)
   obtain⟨-,-,-,z,u,-⟩:=UI.J wr _ _ Y.J;obtain⟨f0,f1⟩:=aR u;have z0:=eR u 0;have z1:=eR u 1;have cr:=Y.J.keep.size;have tN:=ak (λa k=>(show∃pZ,ke w ((wr.setCell ⟨w.heap.size+1,0,ν⟩ a).setCell ⟨w.heap.size+1,1,ν⟩ k) base (ψ (σ ⟨r,0,ν⟩) d x) vs pZ (bh d (R++A))from⟨_,((Y.J.from UW.J).Ek u (by decide) (bE _) a).Ek (aN _ _ 0 _ _ a u) (by decide) (bE _) k⟩));clear z u;go_wp2_with fail;(try simp only[Exit.inBlock,Exit.then]);refine aB (v:=_) (by simp[results,results313,go_sem,f0,f1];rfl) rfl ?_;rw[X.J];exact⟨(λb8 V=>nomatch V),λA V=>by cases V;exact⟨rfl,tN.J _ _⟩⟩
theorem Pg{c:ω}{pv ac N:υ}{k:Nat}{caps:Array υ}{b:List Nat}{B:List (List aD)}(ar:∃ao,pv=.pointer ao)(A:eC c N B)(R:gw c ac b)(U:∀a∈b,a<B.length)(h5:b.length<=1000) :
 Calls prog 127 #[χ #[pv,ac,.func (.func k) #[] caps],N] c λax w'=>∃ad,ax=τ ad/\yX c w' N ad B (b.map λa=>B.getD a [])/\δ c.heap.size c w':=by
 obtain⟨pa,rfl⟩:=ar;obtain⟨I,iQ,rfl⟩:=A.slice;obtain⟨G,T,rfl⟩:=bu.slice R;obtain⟨j0,Ml,Mn,Mp,Mq⟩:=iC Tryz.pB;obtain⟨j,z⟩:=nm (c.alloc (ξ #[.pointer pa,ψ G b.length T,.func (.func k) #[] caps] 145));have Q:=oJ z;have jF:j.heap[c.heap.size]?=σ (ξ #[.pointer pa,ψ G b.length T,.func (.func k) #[] caps] 145 (0,0)):=by rw[z];exact au c _
 have pD:=ak (λwr (s:δ j.heap.size j wr)=>(show eC wr (ψ I B.length iQ) B/\gw wr (ψ G b.length T) b/\δ c.heap.size c wr from by
  have O:=Q.trans (s.mono Q.size);exact⟨A.below O (ae _),bu.below R O (ae _),O⟩))
 have X:=ak U;have HW:=ak z;have al:=A;have HZ:Hid (c.heap.size<j.heap.size):=ak (aw jF);clear A R U z Q jF;go_in;go_wp2_with fail;rw[<- HW.J];go_loopw[12,5] (λl ab wr=>∃(d:Nat) (F:Option Addr) (y:Nat) (vs:List υ),d<=b.length/\l=ι κ d/\ab=ψ F d y/\Hid (wr.ownsRow j.heap.size 230 1 (ψ F d y) d vs)/\Hid (∀(e a:Nat) (f:List aD),e<d->b[e]?=σ a->B[a]?=σ f->∃i,vs[e]?=σ i/\mW c i f/\Ms c I a i)/\Hid (δ j.heap.size j wr)) (λl _ _=>b.length - (intOf l).toNat);case atStart=>exact⟨0,ν,0,[],aK _,rfl,rfl,ak ⟨rfl,.inl ⟨rfl,rfl⟩⟩,ak (λe a f s=>absurd s (by omega)),ak (ah _ _)⟩
 case round=>
  obtain⟨d,F,y,vs,hi,rfl,rfl,r,V,x⟩:=hrel;by_cases cL:d<b.length
  .have ju:(d:Int)<b.length:=(by omega);obtain⟨Zc,aa,p⟩:=pD.J wr x.J;obtain⟨a,g⟩:∃a,b[d]?=σ a:=⟨_,af cL⟩;have C:=X.J a (aA g);have a1:(a:Int)<B.length:=(by omega);obtain⟨sg,so,Hq,v,s0⟩:=gw.get aa g;cases v;obtain⟨f,o⟩:∃f,B[a]?=σ f:=⟨_,af C⟩;obtain⟨K,M,a0,i,v,aq,H,P⟩:=al.Mk o;cases v;have b1:=(p.cell (p:=⟨K,M+a,ν⟩) aq).trans H;obtain⟨E,D,rfl⟩:=bu.slice P;have FJ:vs.length=d:=(by have:=r.J.1;omega)
   have am:Hid (∀(e w:Nat) (m:List aD),e<d+1->b[e]?=σ w->B[w]?=σ m->∃i,(vs++[ψ E f.length D])[e]?=σ i/\mW c i m/\Ms c (σ ⟨K,M,ν⟩) w i):=ak (λe w m n t u=>by
    by_cases FZ:e<d
    . obtain⟨aC,h3,h4⟩:=V.J e w m FZ t u
      exact⟨aC,by rw[cw (by omega)];exact h3,h4⟩
    . obtain rfl:e=d:=by omega
      rw[g]at t
      cases t
      rw[o]at u
      cases u
      exact⟨_,by rw[bp (by omega),FJ,da];rfl,P,K,M,_,rfl,H,λ_ s=>s⟩)
   have lx:=x.J.size;have uk:=r.J.alloc (ξ #[ψ E f.length D] 230 (0,0));have uj:=ak (World.news_of_block (au wr (ξ #[ψ E f.length D] 230 (0,0))));clear Zc aa g o P H p;go_wp2_with(at_builtin;refine cJ _ rfl _ _ 152 rfl j.heap.size 230 j0 _ 1 24 underlying152 Ml Mn Mp Mq rfl (by decide) _ _ _ rfl uk ⟨wr.heap.size,0,ν⟩ 1 1 [ψ E f.length D] rfl rfl uj.J (by simp[Value.oneCell']) (by decide) (by unfold maxLen;omega) (by omega) (by simp;omega) ?_;intro ap eZ w3 Y Z dT);have yn:=Y;have nF:=(x.J.alloc lx _).grown Z (by simp;omega) (λk hk=>(r.J.lt k hk).1);clear Y Z dT;(try go_wp2_with fail);go_roundw;(case rel=>exact⟨d+1,_,_,_,by omega,by go_num,rfl,yn,am,nF⟩);case measure=>simp[intOf];omega
  obtain rfl:d=b.length:=by omega
  obtain⟨-,-,p⟩:=pD.J wr x.J;have HE:Hid (yX c wr (ψ I B.length iQ) (ψ F b.length y) B (b.map λa=>B.getD a [])):=ak (by
   rintro an hM ⟨-,pZ,r1,r2⟩;refine⟨λa3 a2 l hp hm=>?_,vs,by rw[aQ];exact bu.eY r.J,λe l n=>?_⟩
   . cases hp
     rcases r.J.2 with⟨m,-⟩|⟨q,cp,cur,m,hq,-⟩
     . cases m
     . cases m
       have:=hM _ hm;have:=HZ.J;simp at *;omega
   . rw[aV]at n
     cases g:b[e]? with
     |none=>rw[g]at n;cases n
     |some a=>
       rw[g]at n;have C:=X.J a (aA g);have o:B[a]?=σ l:=by
        rw[af C];simp[List.getD,List.getElem?_eq_getElem C]at n;rw[n]
       obtain⟨i,t,u,ap,ab,u0,v,av,hn⟩:=V.J e a l (aj.mp g).1 g o;obtain⟨u',e1,-,e3⟩:=r2 a l o;obtain⟨g',o',Ao,W,-,-,hx⟩:=r1.at (by omega);rw[v]at W
       cases W
       have e4:=hx a u' e1;rw[av]at e4
       cases e4
       exact⟨i,t,bu.below u p (ae _),hn an e3⟩)
  have HL:=p;clear p;go_wp2_with fail;go_ret;exact⟨_,rfl,HE.J,HL⟩
section
variable {wr w3:ω} {base:Nat} {vs:List υ} {L:List (List aD)}
theorem gu.WL(i:gu wr base (ψ (σ (Ad w 0)) n s) vs L)(v:L.length=n){b:List aD}{k:aD}(u:vs[c]?=σ p)(M:L[c]?=σ b)
 (I:w3.ownsRow base 229 3 (ψ (σ (Ad o 0)) (b.length+1) y) (b.length+1) (bI b++oE k)) (C:(wr.alloc g).drew.grownBy w3 p.ownBlock) (A:p.ownBlock=σ o\/o=wr.heap.size+1) :
 gu (w3.setCell (Ad w c) (ψ (σ (Ad o 0)) (b.length+1) y)) base (ψ (σ (Ad w 0)) n s) (vs.set c (ψ (σ (Ad o 0)) (b.length+1) y)) (L.set c (b++[k])):=by
 have T:c<n:=by rw[<- v];exact(aj.mp M).1
 have x:δ wr.heap.size wr (wr.alloc g).drew:=aH ((ah _ _).alloc (ae _) _);have K:=cq i.row x;have R:=(i.row.lt w rfl).2;have H:o≠w:=(by rcases A with a|a;{intro t;exact i.off c p o u a (by rw[t];rfl)};omega);have N:∀e f,e≠c->vs[e]?=σ f->f.ownBlock≠σ o:=by
  intro e f m F t;rcases A with a|a
  {exact i.each.apart c e p f o (λa=>m a.symm) u F a t};have:=(i.each.lt F t).2;omega
 have z:=dH K C (λr j a=>i.off c p r u j (by simpa using a));rw[v]at z;have O:=(z.stored c (ψ (σ (Ad o 0)) (b.length+1) y)).1;have D:=grownBy_setCell w3 (Ad w c) (ψ (σ (Ad o 0)) (b.length+1) y);have P:w3.ownsRow base 229 3 (ψ (σ (Ad o 0)) (b.length+1) y) (b++[k]).length (bI (b++[k])):=(by have a:bI (b++[k])=bI b++oE k:=(by simp[bI]);rw[a,az];exact I);refine⟨by rw[ny,v];exact O,?_,λe f G d l=>?_⟩;{exact(i.each.below x).set (dH P D (λr j a=>by cases j;simp[Value.ownBlock]at a;exact H a)) (λe f Q m d l=>dH (dH ((i.each.below x).own e f Q d l) C (λr j a=>i.each.apart c e p f r (λa=>m a.symm) u d j a)) D (λr j a=>by cases j;exact i.off e f w d a rfl)) (λe f G m d E=>by simp[Value.ownBlock]at E;subst E;exact N e f m d)};rw[bH]at d;split at d;{split at d;{cases d;simp[Value.ownBlock]at l;subst l;simp[Value.ownBlock];exactλa=>H a.symm};cases d};exact i.off e f G d l
theorem gu.seen(b:gu wr base (ψ (σ (Ad w 0)) n s) vs L)(i:L.length=n)(o:c<n)(j:vs[c]?=σ p)(e:(wr.alloc g).drew.grownBy w3 p.ownBlock):(∃m,w3.cell? (Ad w c)=σ m)/\w3.frozen? (Ad w c)=false:=by have l:δ wr.heap.size wr (wr.alloc g).drew:=aH ((ah _ _).alloc (ae _) _);have a:=dH (cq b.row l) e (λk f d=>b.off c p k j f (by simpa using d));rw[i]at a;refine⟨?_,a.frozenAt c⟩;rw[a.cellAt c (by omega)];exact⟨_,af (by have:=a.1;omega)⟩
end
def iu(n:Nat)(R:List (List aD))(i j:Nat):List (List aD):=(List.range n).map λk=>if k<i then R.map (λr=>r.getD k fD)else if k=i then(R.take j).map (λr=>r.getD k fD)else[]
theorem Dk(a:Nat)(b:List (List aD))(c d:Nat):(iu a b c d).length=a:=by simp[iu]
theorem Fe{a:List (List aD)}(b:n<w):(iu w a n s)[n]?=σ ((a.take s).map λc=>c.getD n fD):=by unfold iu;rw[aV,eP b];simp
theorem J8(a:Nat)(c:List (List aD)):iu a c 0 0=List.replicate a []:=by apply cB;intro d;unfold iu;by_cases b:d<a;{rw[aV,eP b,df,aF b];simp};rw[aZ (by simp;omega),aZ (by simp;omega)]
theorem J9(i:Nat)(c:List (List aD))(a:Nat):iu i c a c.length=iu i c (a+1) 0:=by unfold iu;apply eO;intro b j;by_cases d:b<a;{simp[d,show b<a+1 by omega]};by_cases e:b=a;{simp[e,List.take_length]};have f:¬b<a+1:=(by omega);by_cases g:b=a+1;{rw[aE d,aE e,aE f,aF g];simp};rw[aE d,aE e,aE f,aE g]
theorem MS(a:Nat)(b:List (List aD)):iu a b a 0=bh a b:=by unfold iu bh;apply eO;intro d c;simp[List.mem_range.mp c]
theorem MT{n:Nat}{a:List (List aD)}{j:Nat}{row:List aD}(c:w<n)(g:a[j]?=σ row):(iu n a w j).set w ((a.take j).map (λi=>i.getD w fD)++[row.getD w fD])=iu n a w (j+1):=by apply cB;intro d;rw[bH,Dk];by_cases b:d=w;{subst b;rw[aF rfl,aF c,Fe c,de,g];simp};rw[aE (λf=>b f.symm)];unfold iu;by_cases e:d<n;{rw[aV,aV,eP e];simp[b]};rw[aZ (by simp;omega),aZ (by simp;omega)]
theorem Each.get{i f:Type}{g:i->f->Prop}:∀{d:List i} {e:List f} {j:Nat} {c:f},Each g d e->e[j]?=σ c->∃b,d[j]?=σ b/\g b c
 |[],[],j,c,_,a=>by simp at a
 |b::d,b'::e,0,c,a,hb=>by simp at hb;subst hb;exact⟨b,rfl,a.1⟩
 |b::d,b'::e,j+1,c,a,hb=>by
   obtain⟨m,k,l⟩:=Each.get (j:=j) a.2 (by simpa using hb);exact⟨m,by simpa using k,l⟩
 |[],_::_,_,_,a,_=>absurd a (λa=>a)
 |_::_,[],_,_,a,_=>absurd a (λa=>a)
theorem XU{base:Nat}(g:m.ownsRow base 230 1 (ψ (σ (Ad w 0)) n n) n (List.replicate n sL))(f:List (List aD)):gu m base (ψ (σ (Ad w 0)) n n) (List.replicate n sL) (iu n f 0 0):=by have e:∀(b:Nat) (a:υ),(List.replicate n sL)[b]?=σ a->a=sL:=λb a j=>(ug.mp (aA j)).2;rw[J8];refine⟨by rw[jt];exact g,⟨by simp,λb a k c i=>?_,λb l a o w _ c _ d=>?_⟩,λb a w c d=>?_⟩;{rw[e b a c,(ug.mp (aA i)).2];exact⟨rfl,.inl ⟨rfl,rfl⟩⟩};{rw[e b a c]at d;cases d};rw[e b a c]at d;cases d
def XV(r:uU):List aD:=r.vals.map λv=>⟨v.null,v.n,v.s⟩
theorem Ka{w:ω}{t:Nm}{j:List (Nat×υ)}{i:List uU}{n:Nat}(hv:bu w 2 u j.length (tE j))(hr:Each (λd e=>d.1=e.pl/\bu w 5 d.2 e.vals.length (BU (e.vals.map su))) j i)(hl:∀e∈i,e.vals.length=n)(hn:0<n)(n5:n<=5)(bb:i.length<=302) :
 Calls prog 281 #[χ #[θ t.1,ι κ t.2,u],ι κ n] w λP w'=>∃bv vs,P=τ bv/\gu w' (w.heap.size+1) bv vs (bh n (i.map XV))/\δ w.heap.size w w':=by
 obtain⟨i0,yG,lC,lI,kQ⟩:=iC Tryz.pB;obtain⟨X,O,rfl⟩:=bu.slice hv;obtain⟨b,A⟩:=nm (w.alloc (obS t.1 t.2 X j.length O));have ia:=oJ A;have yZ:b.heap.size=w.heap.size+1:=by rw[A];simp
 have jF:b.heap[w.heap.size]?=σ (obS t.1 t.2 X j.length O):=by rw[A];exact au w _
 have M:j.length=i.length:=hr.len;have Z:=ak (λwr (h:δ b.heap.size b wr)=>(show δ w.heap.size w wr/\wr.heap[w.heap.size]?=σ (obS t.1 t.2 X j.length O)/\bu wr 2 (ψ X j.length O) j.length (tE j)/\Each (λd e=>d.1=e.pl/\bu wr 5 d.2 e.vals.length (BU (e.vals.map su))) j i from by
  have z:=ia.trans (h.mono (by omega));exact⟨z,(h.block _ (by omega)).trans jF,bu.below hv z (ae _),hr.mono (λd _ e p=>⟨p.1,bu.below p.2 z (ae _)⟩)⟩))
 have HL:=ak hl;have a4:=ak M;have HW:=ak A;have vW:=ak yZ;have hR:(i.map XV).length=i.length:=aQ ..;obtain⟨k,R⟩:=nm (i.map XV);rw[<- R]at hR;have a2:=ak R;have a3:=ak hR;rw[<- R];clear A yZ hv hr hl ia jF M hR R;go_in;go_wp2_with(at_make;(try rw[<- HW.J]);refine dV _ rfl _ _ 152 rfl b.heap.size 230 i0 _ 1 underlying152 yG lC lI _ _ _ _ n rfl rfl rfl rfl (by rw[kQ];omega) (by unfold maxLen;omega) (by simp) ?_;intro w1 bS bY);rw[lS,sZ]at bS;have a1:=ak (XU bS k);have Br:Hid (δ b.heap.size b w1):=ak ((ah _ _).grown bY (ae _) (by simp));obtain⟨j0,Ml,Mn,Mp,Mq⟩:=iC Tryz.zT;clear bS bY yG lC lI kQ;go_loopw[13] (λm wr=>∃(a:Nat) (vs:List υ),a<=n/\m=ι κ a/\Hid (gu wr b.heap.size (ψ (σ (Ad b.heap.size 0)) n n) vs (iu n k a 0))/\Hid (δ b.heap.size b wr)) (λm _=>n - (intOf m).toNat);case atStart=>exact⟨0,_,aK _,rfl,a1,Br⟩
 case round=>
  obtain⟨a,vs,hi,rfl,Nk,sM⟩:=hrel;by_cases cL:a<n
  .have ju:(a:Int)<n:=(by omega);obtain⟨lM,cx,-,-⟩:=Z.J wr sM.J;obtain⟨c0,c1,c2⟩:=aY cx;clear lM cx;go_wp2_with fail;go_loopw[19] (λm wr=>∃(f:Nat) (vs:List υ),f<=i.length/\m=ι κ f/\Hid (gu wr b.heap.size (ψ (σ (Ad b.heap.size 0)) n n) vs (iu n k a f))/\Hid (δ b.heap.size b wr)) (λm _=>i.length - (intOf m).toNat);(case atStart=>exact⟨0,vs,aK _,rfl,Nk,sM⟩);case round=>
    obtain⟨f,vs2,hj,rfl,am,x⟩:=hrel;obtain⟨-,-,JT,ad⟩:=Z.J wr x.J;have M:=a4.J;by_cases a5:f<i.length
    .have a9:(f:Int)<j.length:=(by omega);obtain⟨e,N⟩:∃e,i[f]?=σ e:=⟨_,af a5⟩;have D4:=HL.J e (aA N);obtain⟨⟨aa,av⟩,ac,-,J3⟩:=ad.get N;obtain⟨vg,vo,xW,he,-,be,hx⟩:=bu.at JT (by omega);cases he;have x0:wr.cell? (Ad vg (vo+f*2))=σ (ι κ aa):=hx (f*2) _ (dy V0 2 (λ_=>rfl) j ac (j:=0) (by decide));have x1:wr.cell? (Ad vg (vo+f*2+1))=σ av:=hx (f*2+1) _ (dy V0 2 (λ_=>rfl) j ac (j:=1) (by decide));simp only at J3;obtain⟨rg,l,rK,he,-,T,U⟩:=bu.at J3 (by omega);subst he;rw[D4]at x1;obtain⟨v,al⟩:∃v,e.vals[a]?=σ v:=⟨_,af (by omega)⟩;have I:(e.vals.map su)[a]?=σ (su v):=(by rw[aV,al];rfl);obtain⟨c,E⟩:=nm (⟨v.null,v.n,v.s⟩:aD);have y2:wr.cell? (Ad rg (l+a*5+2))=σ (.bool c.null):=(by rw[E];exact U (a*5+2) _ (dy rS 5 (λ_=>rfl) _ I (j:=2) (by decide)));have y3:wr.cell? (Ad rg (l+a*5+3))=σ (ι κ c.n):=(by rw[E];exact U (a*5+3) _ (dy rS 5 (λ_=>rfl) _ I (j:=3) (by decide)));have y4:wr.cell? (Ad rg (l+a*5+4))=σ (θ c.s):=(by rw[E];exact U (a*5+4) _ (dy rS 5 (λ_=>rfl) _ I (j:=4) (by decide)));have ap:k[f]?=σ (XV e):=(by rw[a2.J,aV,N];rfl);have aq:(XV e).getD a fD=c:=(by rw[E];unfold XV;simp[List.getD,al]);have W:=ak (MT (n:=n) (j:=f) cL ap);rw[aq]at W;obtain⟨g,V⟩:=nm (wr.alloc (obQ aa (σ (Ad rg l)) n rK));have r:=oJ V;have mq:g.heap[wr.heap.size]?=σ (obQ aa (σ (Ad rg l)) n rK):=(by rw[V];exact au wr _);have s:=am.J.below r;have C:(iu n k a f)[a]?=σ ((k.take f).map λe=>e.getD a fD):=Fe cL;obtain⟨d,ab⟩:=nm ((k.take f).map λe=>e.getD a fD);rw[<- ab]at C W;have qK:d.length<=302:=(by rw[ab,aQ,bV];omega)
     obtain⟨a8,D,-⟩:=s.each.cells C;have K:=s.each.own a a8 _ D C;obtain⟨H,F,rfl,-,-⟩:=cu K;have Y:=Dk n k a f;have Q:=s.row;rw[Y]at Q;have g1:g.cell? (Ad b.heap.size a)=σ (ψ H d.length F):=(Q.cellAt a (by omega)).trans D;have bc:=(Q.lt b.heap.size rfl).2;obtain⟨k0,k1⟩:=aR mq;have D7:=aw mq;have ba:rg<g.heap.size:=ai T r.size;have q2:=(r.cell (p:=(Ad rg (l+a*5+2))) T).trans y2;have q3:=(r.cell (p:=(Ad rg (l+a*5+3))) T).trans y3;have q4:=(r.cell (p:=(Ad rg (l+a*5+4))) T).trans y4;have G:=x.J.trans (r.mono x.J.size);have uk:=ak ((K.alloc (ru c.null c.n c.s)).drew);have uj:=ak (World.news_of_block (w:=(g.alloc (ru c.null c.n c.s)).drew) (B:=g.heap.size) (au g (ru c.null c.n c.s)));have Np:Hid ((g.alloc (ru c.null c.n c.s)).drew.heap.size=g.heap.size+1):=ak (by show(g.heap.push _).size=_;rw[dM]);have QF:=ak (λ(w3:ω) (p:(g.alloc (ru c.null c.n c.s)).drew.grownBy w3 (Value.slice H d.length F).ownBlock)=>s.seen Y cL D p);have a0:=ak (λ(o y:Nat) (w3:ω) (z:w3.ownsRow b.heap.size 229 3 (ψ (σ (Ad o 0)) (d.length+1) y) (d.length+1) (bI d++oE c)) (p:(g.alloc (ru c.null c.n c.s)).drew.grownBy w3 (Value.slice H d.length F).ownBlock) (h3:(Value.slice H d.length F).ownBlock=σ o\/o=g.heap.size+1)=>(show gu (w3.setCell (Ad b.heap.size a) (ψ (σ (Ad o 0)) (d.length+1) y)) b.heap.size (ψ (σ (Ad b.heap.size 0)) n n) (vs2.set a (ψ (σ (Ad o 0)) (d.length+1) y)) (iu n k a (f+1))/\δ b.heap.size b (w3.setCell (Ad b.heap.size a) (ψ (σ (Ad o 0)) (d.length+1) y))from by
      have P:=s.WL Y D C z p h3;rw[W.J]at P;exact⟨P,(((aH (G.alloc G.size _))).grown p (by rw[Np.J];have:=G.size;omega) (λa6 hk=>(K.lt a6 hk).1)).setCell (ae _) _⟩))
     have Wm:Hid (d.length+1<=maxLen):=ak (by unfold maxLen;omega);have OZ:Hid ((d.length+1)*32<=140737488355328):=ak (by omega);have Jk:Hid (b.heap.size<=(g.alloc (ru c.null c.n c.s)).drew.heap.size):=ak (by rw[Np.J];have:=G.size;omega);have B6:=ak V;clear V r mq s C ab K Q D G JT ad ac J3 hx U I al ap aq E y2 y3 y4 N Y W M;go_wp2_with fail;rw[<- B6.J];clear x0 x1 c0 c1 c2;go_region_law(refine step_append_lies _ rfl (.tmp 28) (.tmp 35) 230 rfl b.heap.size 229 j0 _ 3 32 underlying230 Ml Mn Mp Mq rfl (by decide) (ψ H d.length F) d.length (bI d) rfl uk.J (Ad g.heap.size 0) 1 1 (oE c) rfl rfl uj.J (Ig c) (by decide) Wm.J OZ.J Jk.J (g.heap.size+1) Np.J ?_;intro o y w3 oG j9 uE _;obtain⟨⟨xx,d0⟩,fz⟩:=QF.J w3 j9;have yn:=ak oG;have ar:=ak j9;have EV:=ak uE;clear oG j9 uE);all_goals obtain⟨an,ao⟩:=a0.J _ _ _ yn.J ar.J EV.J;have ax:=ak an;have aC:=ak ao;clear an ao;(try go_wp2_with fail);go_roundw;(case rel=>exact⟨f+1,_,by omega,by go_num,ax,aC⟩);case measure=>simp[intOf];omega
    obtain rfl:f=i.length:=by omega
    have HN:Hid (gu wr b.heap.size (ψ (σ (Ad b.heap.size 0)) n n) vs2 (iu n k (a+1) 0)):=ak (by rw[<- J9,a3.J];exact am.J);have bd:¬((i.length:Nat):Int)<j.length:=by omega
    clear JT ad;go_wp2_with fail
    first
    |exact⟨⟨a+1,vs2,by omega,by go_num,HN,x⟩,by simp[intOf];omega⟩
    | (go_roundw
       case rel=>exact⟨a+1,vs2,by omega,by go_num,HN,x⟩
       case measure=>simp[intOf];omega)
  obtain rfl:a=n:=(by omega);have HE:Hid (gu wr (w.heap.size+1) (ψ (σ (Ad b.heap.size 0)) a a) vs (bh a k)):=ak (by rw[<- MS,<- vW.J];exact Nk.J);have UW:=ak (Z.J wr sM.J).1;go_wp2_with fail;go_ret;exact⟨_,vs,rfl,HE.J,UW.J⟩
