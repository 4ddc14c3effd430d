import Derived.Test.YtcoaphfimellcaaGreatDoorQBQ
import Derived.Test.YtcoaphfimellcaaGreatDoorQBO
set_option maxHeartbeats 0
set_option maxRecDepth 100000
namespace Go.Proofs.YtcoaphfimellcaaGreatDoor
open Go.RowKit
open _root_.Go.Proofs.Tryz
open Option renaming some→σ,none→ν
open Go.IntKind renaming i64→κ
open Go.Ending renaming returned→τ
open Go.Obj renaming cells→ξ
open Go renaming World→ω,Value→υ
open Go.RowKit renaming Below→δ
open Go.Value renaming int→ι,string→θ,slice→ψ,pointer→π,agg→χ
variable{m t:Nat}{x r:ByteArray}{v s u:υ}{n:ω}{l:Nat->Prop}{i:TypeId}
section
open Go.Maps
theorem P8{o:sE}{w:ω}{p mt Q:Nat}{X:Nat->Prop}{n:List (Lit×gD)}{j:List (Lit×ot)}(s:cQ o w p mt Q X n j){f:ByteArray}(P:f.size<=maxLen){pl:Nat}{t:Nm}(O:nw t){g:υ}{c:List mo}(m:uK w g c)(F:∀R∈c,pE R.2)(N:c.length<=300)(u:qs w)(v:uL w) :
 Calls prog 29 #[π (σ ⟨p,0,ν⟩),θ f,.iface 113 (χ #[ι κ pl,θ t.1,ι κ t.2,g])] w λy w'=>y=τ (afV (mZ o.bud (cO n j) f pl t c))/\δ w.heap.size w w':=by
 have W:∀w,(Instr.typeAssert (.iface 113 (χ #[ι κ pl,θ t.1,ι κ t.2,g])) 74 113 true).run prog w=.ok (.tuple #[χ #[ι κ pl,θ t.1,ι κ t.2,g],.bool true]) w:=λw=>by kernel_rfl
 obtain⟨T,L,rfl⟩:=m.slice;obtain⟨r,e⟩:=nm ((w.alloc (gY 0 0)).alloc (Zm pl t.1 t.2 T c.length L));have a:=vC e;have yZ:r.heap.size=w.heap.size+2:=by rw[e];simp
 have k:r.heap[w.heap.size]?=σ (gY 0 0):=by rw[e];exact(dZ _ _ (by simp)).trans (au w _)
 have A:=ak (TS (s.below a) P (pl:=pl) O (m.below a (ae _)) F N (u.below a (ae _)) (v.below a (ae _)));have x:=ak a;have C:=ak e;have B:=ak k;have z:=aw k;clear s a e k m u v;go_in;go_wp2_with fail;rw[<- C.J];refine A.J.mono ?_;rintro y Y ⟨rfl,i⟩;obtain⟨d,l⟩:=nm (mZ o.bud (cO n j) f pl t c);rw[<- l];have b:=(i.block _ z).trans B.J;have G:=ak (x.J.trans (i.mono x.J.size));obtain⟨U,V⟩:=bq b;have Z:=eR b 0;have y1:=eR b 1;have yo:=aw b;have E:=ak b;have D:=ak l;clear i b l;go_wp2_with fail;obtain⟨⟨H,I⟩,K⟩:=gE G.J (ae _) E.J (ι κ (d.2.1:Nat)) (ι κ (d.2.2:Nat));refine aB (v:=.tuple #[θ ⟨d.1.toArray⟩,χ #[ι κ (d.2.1:Nat),ι κ (d.2.2:Nat)]]) (by simp[results,results29,go_sem,H,I];try rfl) rfl ?_;exact⟨by rw[<- D.J];rfl,K⟩
theorem wy{a:Bool}{b c:Tj}{d e:pG}:(if a then(b,d)else(c,e))=(if a then b else c,if a then d else e):=by cases a<;>rfl
theorem zB{st:pG}{a:Bi}(d:∀c,a≠.query c):sw m st x a=(if iZ x iV then([],(lB st a).1.1,(lB st a).1.2)else([],4,0),if iZ x iV then(lB st a).2 else st):=by
 cases a with
 |query c=>exact absurd rfl (d c)
 |create b cols=>exact wy
 |drop b=>exact wy
 |load b j=>exact wy
 |vB e b f g i=>exact wy
 |wI e b=>exact wy
theorem FV(a:υ)(w:ω):(Instr.typeAssert (.iface 171 a) 74 113 true).run prog w=.ok (.tuple #[χ #[ι κ 0,θ ⟨#[]⟩,ι κ 0,ψ ν 0 0],.bool false]) w:=by kernel_rfl
theorem Ez(a:υ)(w:ω):(Instr.typeAssert (.iface 171 a) 74 116 true).run prog w=.ok (.tuple #[.iface 171 a,.bool true]) w:=by kernel_rfl
theorem Yr(a:υ)(w:ω):Sem.run prog (method 566 171 a "quarry/quarry.apply") w=.ok (278,a) w:=by kernel_rfl
theorem Ke(a:υ)(w:ω):(Instr.typeAssert (.iface 133 a) 74 113 true).run prog w=.ok (.tuple #[χ #[ι κ 0,θ ⟨#[]⟩,ι κ 0,ψ ν 0 0],.bool false]) w:=by kernel_rfl
theorem I5(a:υ)(w:ω):(Instr.typeAssert (.iface 133 a) 74 116 true).run prog w=.ok (.tuple #[.iface 133 a,.bool true]) w:=by kernel_rfl
theorem agb(a:υ)(w:ω):Sem.run prog (method 566 133 a "quarry/quarry.apply") w=.ok (273,a) w:=by kernel_rfl
theorem Kf(a:υ)(w:ω):(Instr.typeAssert (.iface 179 a) 74 113 true).run prog w=.ok (.tuple #[χ #[ι κ 0,θ ⟨#[]⟩,ι κ 0,ψ ν 0 0],.bool false]) w:=by kernel_rfl
theorem I6(a:υ)(w:ω):(Instr.typeAssert (.iface 179 a) 74 116 true).run prog w=.ok (.tuple #[.iface 179 a,.bool true]) w:=by kernel_rfl
theorem agc(a:υ)(w:ω):Sem.run prog (method 566 179 a "quarry/quarry.apply") w=.ok (280,a) w:=by kernel_rfl
theorem I7(a:υ)(w:ω):(Instr.typeAssert (.iface 188 a) 74 113 true).run prog w=.ok (.tuple #[χ #[ι κ 0,θ ⟨#[]⟩,ι κ 0,ψ ν 0 0],.bool false]) w:=by kernel_rfl
theorem FW(a:υ)(w:ω):(Instr.typeAssert (.iface 188 a) 74 116 true).run prog w=.ok (.tuple #[.iface 188 a,.bool true]) w:=by kernel_rfl
theorem acS(a:υ)(w:ω):Sem.run prog (method 566 188 a "quarry/quarry.apply") w=.ok (285,a) w:=by kernel_rfl
theorem FX(a:υ)(w:ω):(Instr.typeAssert (.iface 136 a) 74 113 true).run prog w=.ok (.tuple #[χ #[ι κ 0,θ ⟨#[]⟩,ι κ 0,ψ ν 0 0],.bool false]) w:=by kernel_rfl
theorem EA(a:υ)(w:ω):(Instr.typeAssert (.iface 136 a) 74 116 true).run prog w=.ok (.tuple #[.iface 136 a,.bool true]) w:=by kernel_rfl
theorem Ys(a:υ)(w:ω):Sem.run prog (method 566 136 a "quarry/quarry.apply") w=.ok (276,a) w:=by kernel_rfl
theorem Yt{o:sE}{w:ω}{p mt C:Nat}{X:Nat->Prop}{g:List (Lit×gD)}{j:List (Lit×ot)}(m:cQ o w p mt C X g j){i:ByteArray}(O:i.size<=maxLen){D:Nat}{u:υ}{x:Bi}(G:Kc w D u x)(t:SX x)(K:qs w)(L:uL w) :
 Calls prog 29 #[π (σ ⟨p,0,ν⟩),θ i,u] w λl w'=>l=τ (afV (sw o.bud (cO g j) i x).1)/\Left o w w' p mt C X g (sw o.bud (cO g j) i x).2:=by
 cases G with
 |Vn b cols u r=>
   obtain⟨d,k,n,s⟩:=t;refine(qw m (user:=i) (res:=qv (cO g j) b cols) (FV _) (Ez _) (Yr _) call278 (λy v c f=>Tz f d k n s (bu.below (bu.eY r) c (ae _)))).mono ?_;rintro l w' ⟨rfl,e⟩;rw[zB (λ_ a=>by cases a)];exact⟨rfl,e⟩
 |ahN b=>
   refine(qw m (user:=i) (res:=Fc (cO g j) b) (Ke _) (I5 _) (agb _) call273 (λy v c f=>ab5 f t)).mono ?_;rintro l w' ⟨rfl,e⟩;rw[zB (λ_ a=>by cases a)];exact⟨rfl,e⟩
 |ahO b u Q P r N=>
   obtain⟨d,k,n,s⟩:=t;refine(qw m (user:=i) (res:=Bg (cO g j) b P) (Kf _) (I6 _) (agc _) call280 (λy v c f=>acp f d k n s (bu.below (bu.eY r) c (ae _)) (N.mono (λ_ _ _ B=>⟨B.1,bu.below (bu.eY B.2) c (ae _)⟩)))).mono ?_;rintro l w' ⟨rfl,e⟩;rw[zB (λ_ a=>by cases a)];exact⟨rfl,e⟩
 |acG A b cols a z u r=>
   obtain⟨d,k,n,s,E,F⟩:=t;refine(qw m (user:=i) (res:=vt (cO g j) A b cols a z) (I7 _) (FW _) (acS _) call285 (λy v c f=>Ya f d k n E (bu.below (bu.eY r) c (ae _)) F)).mono ?_;rintro l w' ⟨rfl,e⟩;rw[zB (λ_ a=>by cases a)];exact⟨rfl,e⟩
 |Vo A b=>
   obtain⟨d,k⟩:=t;refine(qw m (user:=i) (res:=uM (cO g j) A b) (FX _) (EA _) (Ys _) call276 (λy v c f=>Tx f d k)).mono ?_;rintro l w' ⟨rfl,e⟩;rw[zB (λ_ a=>by cases a)];exact⟨rfl,e⟩
 |acH z b u Q T r I=>
   obtain⟨R,l,H,d,k,n,s,-⟩:=t
   cases H
   refine(P8 m O (pl:=z) (t:=b) d (af8 r I) (P0 n) (by rw[aQ];exact s) K L).mono ?_;rintro l w' ⟨rfl,c⟩;exact⟨rfl,Left.same m c⟩
structure rU (w:ω):Prop where
 laid:Laid w
 kinds:qs w
 pow:uL w
 globs:Cp w
 ops:NL w
theorem acT:prog.globalNamed "internal/strconv.uint64pow10"=σ 9:=by kernel_rfl
theorem rU.on{w w':ω}(a:rU w)(b:δ 12 w w'):rU w' where
 laid:=λc k i=>(b.cell (p:=(Ad 0 c)) (show 0<12 by decide)).trans (a.laid c k i)
 kinds:=⟨ai a.kinds.1 b.size,λe f=>(b.cell (p:=(Ad 1 e)) (show 1<12 by decide)).trans (a.kinds.2 e f)⟩
 pow:=by
  have d:=a.pow;unfold uL Lib.TabIs World.var? at *;rw[acT]at *;simp only[Option.bind_some]at d ⊢;rw[b.block 9 (by decide)];exact d
 globs:=a.globs.below b (ae _)
 ops:=λc j g=>(b.cell (p:=(Ad 8 c)) (show 8<12 by decide)).trans (a.ops c j g)
theorem rU.size{w:ω}(a:rU w):12<=w.heap.size:=a.globs.size
theorem Gp.told{w':ω}{f:Ending}{S:ByteArray}(g:Gp w' m f S):∃c b d,f=τ (.tuple #[c,χ #[ι κ (b:Nat),ι κ (d:Nat)]])/\Rn c/\((∃e,iG S=.inl e/\b=0/\apj w' m c e)\/(∃q,iG S=.inr q/\b=q.1/\d=q.2/\b≠0)):=by
 obtain⟨c,b,d,i,j,a⟩:=g;refine⟨c,b,d,i,j,?_⟩
 cases hr:iG S with
 |inl e=>rw[hr]at a;exact .inl ⟨e,rfl,a.1,a.2⟩
 |inr q=>rw[hr]at a;exact .inr ⟨q,rfl,a.1,a.2.1,a.2.2⟩
def doV(a:Tj):υ:=.tuple #[θ ⟨a.1.toArray⟩,ι κ (a.2.1:Nat),ι κ (a.2.2:Nat)]
theorem akP{o:sE}{w:ω}{p mt:Nat}{X:Nat->Prop}{b:List (Lit×gD)}{f:List (Lit×ot)}(Q:cQ o w p mt m X b f)(E:rU w)(hu:x.size<=maxLen) :
 Calls prog 20 #[π (σ (Ad p 0)),θ x,θ r] w λz w'=>z=τ (doV (sF o.bud (cO b f) x r).1)/\(∀q,iG r=.inr q->q.1≠0)/\Left o w w' p mt m X b (sF o.bud (cO b f) x r).2:=by
 by_cases G:300<r.size;{have Jf:((r.size:Nat):Int)>300:=(by omega);have HR:Hid (sF o.bud (cO b f) x r=(([],1,0),cO b f)):=ak (by unfold sF;rw[aF G]);have B:Hid (∀q,iG r=.inr q->q.1≠0):=ak (λq t=>by unfold iG at t;rw[aF G]at t;cases t;decide);have g:=ak Q;clear Q E G;go_in;go_wp2_with fail;refine aB (by simp[results,results20,go_sem];rfl) rfl ?_;rw[HR.J];exact⟨rfl,B.J,Left.same g.J (ah _ _)⟩}
 have Jf:¬((r.size:Nat):Int)>300:=by omega
 have HP:=ak (Yp r w (by omega) E.globs E.ops);have g:=ak Q;have HG:=ak E;have HL:=ak G;clear Q E G;go_in;go_wp2_with fail;refine HP.J.mono ?_;rintro z a ⟨hp,cx⟩;obtain⟨a3,i,c,rfl,hv,kR⟩:=hp.told;have P:δ a.heap.size a (a.alloc (gY (i:Nat) (c:Nat))):=(ah _ _).alloc (ae _) _;have u:=au a (gY (i:Nat) (c:Nat));obtain⟨W1,V⟩:=nm (a.alloc (gY (i:Nat) (c:Nat)));rw[<- V]at P u;have HF:=ak (ry i c W1);have j:=ak cx;have l:=ak P;have qW:=ak u;have B6:=ak V;have a4:=ak hv;have aC:=bq u;obtain⟨k0,k1⟩:=aC;have D7:=aw u;rcases kR with⟨av,k,QP,N⟩|⟨q,k,ab,Kl,W⟩
 {have O:=ak k;have ad:=ak N;have an:=ak QP;clear hp cx P u V k N QP;have a0:∃a1 a2,a3=.iface a1 a2:=(by have N:=ad.J _ λ_ _ _=>rfl;cases N<;>exact⟨_,_,rfl⟩);obtain⟨tv,uv,rfl⟩:=a0;clear hv;go_wp2_with fail;rw[<- B6.J];refine HF.J.mono ?_;rintro z H ⟨rfl,d⟩;have D:decide (i≠0)=false:=(by simp[an.J]);rw[D];have y:δ w.heap.size w H:=(j.J.trans (l.J.mono j.J.size)).trans (d.mono (ag j.J.size l.J.size));have ao:=ak (ach (g.J.below y));have U:=ak y;have v:=(d.block _ D7).trans qW.J;have Dz:=ak v;have ar:=aw v;have xT:∀e,e<a.heap.size->H.heap[e]?=a.heap[e]?:=λe C=>(d.block e (ai C l.J.size)).trans (l.J.block e C);have ac:=ak (show a.heap.size<=H.heap.size/\_ from⟨ag l.J.size d.size,xT⟩);clear d y v D xT;go_wp2_with fail;refine ao.J.mono ?_;rintro z w3 ⟨rfl,T⟩;have K:=U.J.trans (T.mono U.J.size);have yB:=(T.block _ ar).trans Dz.J;have aa:=aw yB;have al:w.heap.size<=a.heap.size:=j.J.size;have ap:=ak (g.J.wide K al aa);have Z:=HG.J.on (K.mono HG.J.size);have am:=ak (Yt ap.J hu (ad.J w3 λe _ C=>(T.block e (ai C ac.J.1)).trans (ac.J.2 e C)) (Pc O.J) Z.kinds Z.pow);have zO:=ak K;have EV:=ak yB;clear T K yB Z;go_wp2_with fail;refine am.J.mono ?_;rintro z I ⟨rfl,R⟩;have n:I.heap[a.heap.size]?=σ (gY (i:Nat) (c:Nat)):=(by obtain⟨Pv,AH,-,-,F,-⟩:=R;refine(F.block _ ⟨aa,λhm=>?_⟩).trans EV.J;have:=g.J.oS _ (g.J.sub _ hm);omega);obtain⟨A,hx⟩:=nm (sw o.bud (cO b f) x av);rw[<- hx]at R ⊢;have iM:=λW9 ax=>Left.ends (W9:=W9) g.J zO.J al aa R ax;have HE:=ak iM;have s:Hid (aX (λc=>c<I.heap.size/\c≠a.heap.size) I ((I.setCell (Ad a.heap.size 0) (ι κ (A.1.2.1:Nat))).setCell (Ad a.heap.size 1) (ι κ (A.1.2.2:Nat)))):=ak (((aX.refl _ _).setCell (λF=>F.2 rfl) _).setCell (λF=>F.2 rfl) _);obtain⟨W5,L⟩:=nm ((I.setCell (Ad a.heap.size 0) (ι κ (A.1.2.1:Nat))).setCell (Ad a.heap.size 1) (ι κ (A.1.2.2:Nat)));have Fa:W5.heap[a.heap.size]?=σ (gY (A.1.2.1:Nat) (A.1.2.2:Nat)):=(by rw[L];exact aN _ _ 1 _ _ _ (aN _ _ 0 _ _ _ n));rw[<- L]at s;have aq:=ak L;obtain⟨j0,j1⟩:=bq Fa;have Y:=ak ((xD (bud:=o.bud) (st:=cO b f) (user:=x) HL.J O.J).trans hx.symm);obtain⟨g0,g1⟩:=bq n;have y0:=eR n 0;have y1:=eR n 1;have a5:=aw n;have Qy:=ak n;have B:Hid (∀q,iG r=.inr q->q.1≠0):=ak (λq t=>by rw[O.J]at t;cases t);unfold afV;clear R n hx k0 k1 iM L Fa;go_wp2_with fail;rw[<- aq.J];clear g0 g1 y0 y1;go_quiet(fail);go_wp2_with fail;refine aB (by simp[results,results20,go_sem];rfl) rfl ?_;rw[Y.J];exact⟨rfl,B.J,HE.J _ ⟨s.J.os,s.J.tape,s.J.output,s.J.size,s.J.block⟩⟩}
 have O:=ak k;have D:decide (i≠0)=true:=by simpa using W
 have HD:=ak D;have B:Hid (∀q,iG r=.inr q->q.1≠0):=ak (λq' B3=>by rw[k]at B3;cases B3;rw[<- ab];exact W);have Y:Hid (sF o.bud (cO b f) x r=(([],i,c),cO b f)):=ak (by rw[ab,Kl];exact Dl HL.J k);clear hp cx P u V k ab Kl W D;rcases hv with rfl|⟨tv,uv,rfl⟩
 all_goals go_wp2_with fail;rw[<- B6.J];refine HF.J.mono ?_;rintro z H ⟨rfl,d⟩;rw[HD.J];have y:δ w.heap.size w H:=(j.J.trans (l.J.mono j.J.size)).trans (d.mono (ag j.J.size l.J.size));have v:=(d.block _ D7).trans qW.J;obtain⟨g0,g1⟩:=bq v;have U:=ak y;clear d y v;go_wp2_with fail;go_quiet(fail);go_wp2_with fail;refine aB (by simp[results,results20,go_sem];rfl) rfl ?_;rw[Y.J];exact⟨rfl,B.J,Left.same g.J (below_drewN U.J _)⟩
def One(o:sE)(w:ω)(p:Nat)(X M:Nat->Prop)(st:pG):Prop:=∃mt mg tl gl,cQ o w p mt mg X tl gl/\cO tl gl=st/\M=ye mt mg tl
structure vu (o:sE)(w w':ω)(p:Nat)(X M X' M':Nat->Prop)(st:pG):Prop where
 one:One o w' p X' M' st
 more:∀b,X b->X' b
 grows:∀b,X' b->X b\/w.heap.size<=b
 FY:∀b,M' b->M b\/w.heap.size<=b
 keep:aX (λb=>b<w.heap.size/\¬M b) w w'
section
variable {o o2:sE} {w w':ω} {p p2:Nat} {X X' M M' M2:Nat->Prop} {st st2:pG}
theorem One.sub(a:One o w p X M st):∀b,M b->X b:=by obtain⟨mt,d,e,c,a,-,rfl⟩:=a;exact a.sub
theorem One.oS(a:One o w p X M st):∀b,X b->b<w.heap.size:=by obtain⟨mt,d,e,c,a,-,-⟩:=a;exact a.oS
theorem One.stays(b:One o w p X M st)(j:w.heap.size<=w'.heap.size)(g:∀a,a<w.heap.size->¬X a->w'.heap[a]?=w.heap[a]?)(i:∀a,M a->w'.heap[a]?=w.heap[a]?)(e:∀a,X a->X' a)(f:∀a,X' a->X a\/w.heap.size<=a)(l:∀a,X' a->a<w'.heap.size):One o w' p X' M st:=by obtain⟨mt,k,m,c,b,d,rfl⟩:=b;exact⟨mt,k,m,c,b.stays ⟨j,g,f⟩ i e l,d,rfl⟩
theorem One.wide(c:One o w p X M st)(d:δ w.heap.size w w'):One o w' p (λa=>X a\/(w.heap.size<=a/\a<w'.heap.size)) M st:=
 c.stays d.size (λa f _=>d.block a f) (λa g=>d.block a (c.oS a (c.sub a g))) (λa b=>.inl b) (λa b=>b.imp id (λe=>e.1)) (λa b=>by
  rcases b with b|b
  . exact ai (c.oS a b) d.size
  . exact b.2)
theorem One.put(d:One o w p X M st)(g:X m)(i:¬M m)(j:w'.heap.size=w.heap.size)(e:∀a,a≠m->w'.heap[a]?=w.heap[a]?):One o w' p X M st:=
 d.stays (by omega) (λa _ b=>e a (λc=>b (c ▸ g))) (λa f=>e a (λc=>i (c ▸ f))) (λ_ b=>b) (λ_ b=>.inl b) (λa b=>by rw[j];exact d.oS a b)
theorem One.set(a:One o w p X M st)(c:X m)(d:¬M m):One o (w.setCell ⟨m,t,ν⟩ v) p X M st:=
 a.put c d (by simp[World.setCell]) (λe b=>ay _ _ _ _ b)
theorem One.beside(d:One o2 w p2 X M2 st2)(b:vu o w w' p X M X' M' st)(j:∀a,M a->X a)(i:∀a,M a->¬M2 a):One o2 w' p2 X' M2 st2:=
 d.stays b.keep.size (λa f g=>b.keep.block a ⟨f,λc=>g (j a c)⟩) (λa e=>b.keep.block a ⟨d.oS a (d.sub a e),λc=>i a c e⟩) b.more b.grows b.one.oS
theorem vu.apart(g:vu o w w' p X M X' M' st)(c:One o2 w p2 X M2 st2)(f:∀a,M a->¬M2 a):∀a,M' a->¬M2 a:=λa e d=>by
 rcases g.FY a e with b|b
 . exact f a b d
 . have:=c.oS a (c.sub a d);omega
theorem vu.of{i:ω}(d:δ w.heap.size w n)(c:vu o n i p (λa=>X a\/(w.heap.size<=a/\a<n.heap.size)) M l M' st)(e:aX (λa=>a<w.heap.size) i w')(m:One o w' p X' M' st)(j:∀a,l a->X' a)(k:∀a,X' a->l a\/w.heap.size<=a):vu o w w' p X M X' M' st where
 one:=m
 more:=λa f=>j a (c.more a (.inl f))
 grows:=λa f=>by
  have:=d.size;rcases k a f with b|b
  . rcases c.grows a b with(b|b)|b
    . exact .inl b
    . exact .inr b.1
    . exact .inr (by omega)
  . exact .inr b
 FY:=λa f=>by
  have:=d.size;rcases c.FY a f with b|b
  . exact .inl b
  . exact .inr (by omega)
 keep:=by
  have r:=d.size;refine⟨e.os.trans (c.keep.os.trans d.os),e.tape.trans (c.keep.tape.trans d.tape),e.output.trans (c.keep.output.trans d.output),ag r (ag c.keep.size e.size),λa g=>?_⟩;exact(e.block a g.1).trans ((c.keep.block a ⟨by have:=g.1;omega,g.2⟩).trans (d.block a g.1))
theorem vu.trans{M2:Nat->Prop}{g:pG}(c:vu o w w' p X M X' M' st)(d:vu o w' n p X' M' l M2 g):vu o w n p X M l M2 g where
 one:=d.one
 more:=λa e=>d.more a (c.more a e)
 grows:=λa e=>by
  rcases d.grows a e with b|b
  . exact c.grows a b
  . exact .inr (ag c.keep.size b)
 FY:=λa e=>by
  rcases d.FY a e with b|b
  . exact c.FY a b
  . exact .inr (ag c.keep.size b)
 keep:=by
  refine⟨d.keep.os.trans c.keep.os,d.keep.tape.trans c.keep.tape,d.keep.output.trans c.keep.output,ag c.keep.size d.keep.size,λa f=>?_⟩;refine(d.keep.block a ⟨ai f.1 c.keep.size,λb=>?_⟩).trans (c.keep.block a f);rcases c.FY a b with b|b
  . exact f.2 b
  . have:=f.1;omega
theorem vu.below(b:vu o w w' p X M X' M' st)(d:∀a,M a->m<=a)(f:m<=w.heap.size):δ m w w':=
 ⟨b.keep.os,b.keep.tape,b.keep.output,b.keep.size,λa e=>b.keep.block a ⟨by omega,λc=>by have:=d a c;omega⟩⟩
theorem vu.acU(c:vu o w w' p X M X' M' st)(d:∀a,M a->m<=a)(f:m<=w.heap.size):∀a,M' a->m<=a:=λa e=>by
 rcases c.FY a e with b|b
 . exact d a b
 . omega
end
theorem acV{o:sE}{w:ω}{p:Nat}{X M:Nat->Prop}{st:pG}(a:One o w p X M st)(m:rU w){text:ByteArray}(r:x.size<=maxLen) :
 Calls prog 20 #[π (σ ⟨p,0,ν⟩),θ x,θ text] w λf w'=>f=τ (doV (sF o.bud st x text).1)/\(∀q,iG text=.inr q->q.1≠0)/\∃X' M',vu o w w' p X M X' M' (sF o.bud st x text).2:=by obtain⟨mt,s,u,t,a,rfl,rfl⟩:=a;refine(akP a m r).mono ?_;rintro f w' ⟨rfl,n,i,g,j,k,l,e⟩;refine⟨rfl,n,_,_,⟨mt,s,i,g,k,j,rfl⟩,λb d=>.inl d,λb d=>?_,e,l⟩;rcases d with c|c;{exact .inl c};exact(e b c).imp (a.sub b) id
theorem Gq(k i l g:Int)(j push:Bool)(w:ω){X0:Nat->Prop}(r:∀a,X0 a->a<w.heap.size):Calls prog 18 #[χ #[ι κ k,ι κ i,ι κ l,.bool j,.bool push,ι κ g]] w λc w'=>∃p X M,c=τ (π (σ ⟨p,0,ν⟩))/\One (tW k i l g j push) w' p X M ⟨[],[]⟩/\(∀a,X0 a->X a)/\(∀a,X a->X0 a\/w.heap.size<=a)/\(∀a,M a->w.heap.size<=a)/\δ w.heap.size w w':=by
 refine(afZ k i l g j push w).mono ?_;rintro c w' ⟨p,mt,f,rfl,d,s,t,u,e⟩;have n:∀a,ye mt f [] a->w.heap.size<=a:=λa e=>by
  rcases e with c|c|⟨m,b,-⟩
  . omega
  . omega
  . simp at b
 refine⟨p,λa=>X0 a\/ye mt f [] a,ye mt f [],rfl,⟨mt,f,[],[],?_,rfl,rfl⟩,λa b=>.inl b,λa b=>b.imp id (n a),n,e⟩;exact
  { eW:=d.eW
    Be:=d.Be
    Bf:=d.Bf
    ne:=d.ne
    tab:=λm b=>by simp at b
    apart:=List.Pairwise.nil
    gr:=λm b=>by simp at b
    names:=λm b=>by simp at b
    sub:=λa e=>.inr e
    oS:=λa b=>by
     rcases b with c|c
     . exact ai (r a c) e.size
     . exact d.oS a c
    pX:=λb=>by
     rcases b with c|c
     . have:=r p c;omega
     . exact d.pX c
    few:=d.few }
theorem EC(d:n.heap[m]?=σ (ξ #[v,s,u] i (0,0)))(a b c:υ):(((n.setCell ⟨m,0,ν⟩ a).setCell ⟨m,1,ν⟩ b).setCell ⟨m,2,ν⟩ c).heap[m]?=σ (ξ #[a,b,c] i (0,0)):=
 aN _ _ 2 _ _ _ (aN _ _ 1 _ _ _ (aN _ _ 0 _ _ _ d))
theorem pj{o:sE}{w:ω}{p:Nat}{X M:Nat->Prop}{st:pG}(m:One o w p X M st)(r:rU w){user text:ByteArray}(T:user.size<=maxLen) :
 Calls prog 11 #[π (σ ⟨p,0,ν⟩),θ user,θ text] w λv w'=>v=τ (um (sF o.bud st user text).1)/\(∀q,iG text=.inr q->q.1≠0)/\∃X' M',vu o w w' p X M X' M' (sF o.bud st user text).2:=by
 obtain⟨z,e⟩:=nm (w.alloc (ξ #[θ ⟨#[]⟩,ι κ 0,ι κ 0] 30));have g:=oJ e;have G:z.heap.size=w.heap.size+1:=by rw[e];simp
 have C:z.heap[w.heap.size]?=σ (ξ #[θ ⟨#[]⟩,ι κ 0,ι κ 0] 30 (0,0)):=by rw[e];exact au w _
 have I:=ak (acV (m.wide g) (r.on (g.mono r.size)) (text:=text) T);have f:=ak m;have U:=ak g;have N:=ak e;have L:=ak C;have k:=ak G;clear m r g e C G;go_in;go_wp2_with fail;rw[<- N.J];refine I.J.mono ?_;rintro v V ⟨rfl,F,A,M2,d⟩;have E:A w.heap.size:=d.more _ (.inr ⟨ae _,by rw[k.J];omega⟩);have D:¬M2 w.heap.size:=λt=>by
  rcases d.FY _ t with l|l
  . have:=f.J.oS _ (f.J.sub _ l);omega
  . rw[k.J]at l;omega
 have B:¬M w.heap.size:=λt=>by have:=f.J.oS _ (f.J.sub _ t);omega
 have a:=(d.keep.block w.heap.size ⟨by rw[k.J];omega,B⟩).trans L.J;obtain⟨Y,Z,f2⟩:=aY a;have z0:=eR a 0;have z1:=eR a 1;have z2:=eR a 2;have yo:=aw a;have K:=ak F;have x:=ak d;have j:=ak E;have i:=ak D;have O:=ak a;have y:=ak (agd ((sF o.bud st user text).1.2.1:Nat) V);obtain⟨b,n⟩:=nm ((sF o.bud st user text).1);rw[<- n]at y ⊢;have H:=ak n;clear F d E D B a n;unfold doV;go_wp2_with fail;refine y.J.mono ?_;rintro v W ⟨rfl,rfl⟩;go_wp2_with fail;obtain⟨P,Q,R⟩:=aY (EC O.J (θ ⟨b.1.toArray⟩) (ι κ (b.2.1:Nat)) (ι κ (b.2.2:Nat)));refine aB (v:=χ #[θ ⟨b.1.toArray⟩,ι κ (b.2.1:Nat),ι κ (b.2.2:Nat)]) (by simp[results,results11,go_sem,P,Q,R];try rfl) rfl ?_;refine⟨by rw[<- H.J];rfl,K.J,A,M2,vu.of U.J x.J ?_ ((x.J.one.set j.J i.J).set j.J i.J |>.set j.J i.J) (λc u=>u) (λc u=>.inl u)⟩;have s:¬(λc=>c<w.heap.size) w.heap.size:=bO _;exact(((aX.refl (λc=>c<w.heap.size) W).setCell (p:=⟨w.heap.size,0,ν⟩) s _).setCell (p:=⟨w.heap.size,1,ν⟩) s _).setCell (p:=⟨w.heap.size,2,ν⟩) s _
abbrev OpS:=Int×ByteArray×ByteArray
def opL(x:OpS):List υ:=[ι κ x.1,θ x.2.1,θ x.2.2]
noncomputable def xZ (st:pG):List OpS->pG
 |[]=>st
 |x::r=>xZ (sF 0 st x.2.1 x.2.2).2 r
structure o8 where
 seg:Int
 pk:Int
 wd:Int
 prune:Bool
 push:Bool
 bud:Int
def o8.val(f:o8):υ:=χ #[ι κ f.seg,ι κ f.pk,ι κ f.wd,.bool f.prune,.bool f.push,ι κ f.bud]
def o8.opt(f:o8):sE:=tW f.seg f.pk f.wd f.bud f.prune f.push
theorem agn{d:Type}{a:List d}{c:d}(b:a[m]?=σ c):a.drop m=c::a.drop (m+1):=by have e:=(aj.mp b).1;rw[cA e];congr 1;exact(aj.mp b).2
theorem YF{st:pG}{a:OpS}{b:List OpS}:xZ st (a::b)=xZ (sF m st a.2.1 a.2.2).2 b:=by show xZ (sF 0 st a.2.1 a.2.2).2 b=_;rw[Ua (b:=0) (b':=m)]
theorem One.drewN{o:sE}{w:ω}{p:Nat}{X M:Nat->Prop}{st:pG}(b:One o w p X M st)(d:Nat):One o (w.drewN d) p X M st:=
 b.stays (ae _) (λ_ _ _=>rfl) (λ_ _=>rfl) (λ_ a=>a) (λ_ a=>.inl a) (λc a=>b.oS c a)
theorem rU.drewN{w:ω}(b:rU w)(a:Nat):rU (w.drewN a):=b.on (below_drewN (ah _ _) a)
theorem B1{w:ω}{f:o8}{b:List OpS}(U:rU w)(H:bu w 3 v b.length (b.flatMap opL))(hl:b.length<=9000000000000000000)(V:∀d∈b,d.2.1.size<=maxLen){X0:Nat->Prop}(T:∀a,X0 a->a<w.heap.size) :
 Calls prog 9 #[f.val,v] w λN w'=>∃p X M,N=τ (π (σ ⟨p,0,ν⟩))/\One f.opt w' p X M (xZ ⟨[],[]⟩ b)/\(∀a,X0 a->X a)/\(∀a,X a->X0 a\/w.heap.size<=a)/\(∀a,M a->w.heap.size<=a)/\δ w.heap.size w w':=by
 obtain⟨va,dq,rfl⟩:=bu.slice H;obtain⟨t,r,u,s,push,m⟩:=f;unfold o8.val;simp only;obtain⟨ad,G⟩:=nm (w.alloc (ξ #[ι κ t,ι κ r,ι κ u,.bool s,.bool push,ι κ m] 23));have W:=oJ G;have HO:=ak (uO t r u m s push ad);have O:=ak U;have HS:=ak H;have HU:=ak V;have ac:=ak T;have qg:=ak W;have HW:=ak G;clear U H V T W G;go_in;go_wp2_with fail;rw[<- HW.J];refine HO.J.mono ?_;rintro N w1 ⟨rfl,R⟩;have L:=qg.J.trans (R.mono qg.J.size);have HN:=ak (Gq t r u m s push w1 (X0:=X0) (λa k=>ai (ac.J a k) L.size));have B:=ak L;clear R L;go_wp2_with fail;refine HN.J.mono ?_;rintro N w2 ⟨p,z,M2,rfl,l,g,i,e,Q⟩;have Z:=B.J.trans (Q.mono B.J.size);have ab:Hid (One (tW t r u m s push) w2 p z M2 ⟨[],[]⟩/\(∀a,X0 a->z a)/\(∀a,z a->X0 a\/w.heap.size<=a)/\(∀a,M2 a->w.heap.size<=a)/\δ w.heap.size w w2):=ak ⟨l,g,λa k=>(i a k).imp id (λx=>ag B.J.size x),λa k=>ag B.J.size (e a k),Z⟩;clear l g i e Q Z;go_wp2_with fail;go_loopw[6] (λF wr=>∃(c:Nat) (X M:Nat->Prop) (st:pG),c<=b.length/\F=ι κ c/\Hid (xZ ⟨[],[]⟩ b=xZ st (b.drop c))/\Hid (One (tW t r u m s push) wr p X M st/\(∀a,X0 a->X a)/\(∀a,X a->X0 a\/w.heap.size<=a)/\(∀a,M a->w.heap.size<=a)/\δ w.heap.size w wr)) (λF _=>b.length - (intOf F).toNat);case atStart=>exact⟨0,z,M2,⟨[],[]⟩,aK _,rfl,ak rfl,ab⟩
 case round=>
  obtain⟨c,X,M,st,hi,rfl,P,C⟩:=hrel;obtain⟨l,g,i,e,j⟩:=C.J;have K:=j.size;by_cases cL:c<b.length
  .have ju:(c:Int)<b.length:=(by omega);obtain⟨d,y⟩:∃d,b[c]?=σ d:=⟨_,af cL⟩;obtain⟨vg,vo,xW,he,-,al,I⟩:=bu.at (bu.below HS.J j (ae _)) (by omega);cases he;have x1:wr.cell? ⟨vg,vo+c*3+1,ν⟩=σ (θ d.2.1):=I (c*3+1) _ (dy opL 3 (λ_=>rfl) b y (j:=1) (by decide));have x2:wr.cell? ⟨vg,vo+c*3+2,ν⟩=σ (θ d.2.2):=I (c*3+2) _ (dy opL 3 (λ_=>rfl) b y (j:=2) (by decide));have D:Hid (xZ ⟨[],[]⟩ b=xZ (sF (tW t r u m s push).bud st d.2.1 d.2.2).2 (b.drop (c+1))):=ak (by rw[P.J,agn y];exact YF);have HD:=ak (λY=>acV (l.drewN Y) ((O.J.on (j.mono O.J.size)).drewN Y) (text:=d.2.2) (HU.J d (aA y)));clear l g i e j I y;go_wp2_with fail;go_region_with(go_at_call 20;refine(HD.J _).mono ?_;rintro x w3 ⟨rfl,hq,A,E,n⟩;have aa:=ak n;clear hq n);all_goals
    (try go_wp2_with fail)
    have HR:Hid (One (tW t r u m s push) w3 p A E (sF (tW t r u m s push).bud st d.2.1 d.2.2).2/\(∀a,X0 a->A a)/\(∀a,A a->X0 a\/w.heap.size<=a)/\(∀a,E a->w.heap.size<=a)/\δ w.heap.size w w3):=ak (by
     obtain⟨l,g,i,e,j⟩:=C.J;have n:=aa.J;refine⟨n.one,λa k=>n.more a (g a k),λa k=>?_,n.acU e K,(below_drewN j _).trans (n.below e K)⟩;rcases n.grows a k with x|x
     . exact i a x
     . exact .inr (ag K x))
    exact⟨⟨c+1,A,E,_,by omega,by go_num,D,HR⟩,by simp[intOf];omega⟩
  obtain rfl:c=b.length:=(by omega);have D:Hid (xZ ⟨[],[]⟩ b=st):=ak (by rw[P.J,fC];rfl);clear l g i e j;go_wp2_with fail;go_ret;obtain⟨l,g,i,e,j⟩:=C.J;exact⟨p,X,M,rfl,by rw[D.J];exact l,g,i,e,j⟩
theorem ED{w:ω}(al:o8)(hg:rU w):Calls prog 8 #[al.val] w λe w'=>e=τ (.bool true)/\δ w.heap.size w w':=by
 obtain⟨l,j,m,k,push,a3⟩:=al;unfold o8.val;simp only;obtain⟨av,Q⟩:=nm (w.alloc (ξ #[ι κ l,ι κ j,ι κ m,.bool k,.bool push,ι κ 1000] 23));have ia:=oJ Q;have HO:=ak (uO l j m 1000 k push av);have g:=ak hg;have qg:=ak ia;have HW:=ak Q;clear hg ia Q;go_in;go_wp2_with fail;rw[<- HW.J];refine HO.J.mono ?_;rintro e w1 ⟨rfl,cx⟩;have pC:=qg.J.trans (cx.mono qg.J.size);have HN:=ak (Gq l j m 1000 k push w1 (X0:=λ_=>False) (λt R=>R.elim));have P:=ak pC;clear cx pC;go_wp2_with fail;refine HN.J.mono ?_;rintro e w2 ⟨p,X2,M2,rfl,qS,-,-,c,cG⟩;have U:=P.J.trans (cG.mono P.J.size);have Wa:∀t,M2 t->w.heap.size<=t:=λt R=>ag P.J.size (c t R);have sC:=g.J.on (U.mono g.J.size);have D:=ak (pj qS sC (user:=iV) (text:=aT) (by decide));rw[show(tW l j m 1000 k push).bud=1000 from rfl,show(⟨[],[]⟩:pG)=st0 from rfl,awd]at D;have OZ:=ak Wa;have z:=ak U;unfold iV aT at D;clear qS c cG U Wa sC;go_wp2_with fail;refine D.J.mono ?_;rintro e b ⟨rfl,-,X3,M3,d⟩;obtain⟨H,n⟩:=nm (b.alloc (ξ #[θ ⟨#[]⟩,ι κ 0,ι κ 0] 30));have O:=oJ n;have SD:H.heap.size=b.heap.size+1:=by rw[n];simp
 have yB:H.heap[b.heap.size]?=σ (ξ #[θ ⟨#[]⟩,ι κ 0,ι κ 0] 30 (0,0)):=by rw[n];exact au b _
 have am:=d.acU OZ.J z.J.size;have T:δ w.heap.size w H:=(z.J.trans (d.below OZ.J z.J.size)).trans (O.mono (ag z.J.size d.keep.size));have ao:¬M3 b.heap.size:=λc=>by have:=d.one.oS _ (d.one.sub _ c);omega
 have Qx:=g.J.on (T.mono g.J.size);have E:=ak (pj (d.one.wide O) Qx (user:=iV) (text:=bT) (by decide));rw[show(tW l j m 1000 k push).bud=1000 from rfl,awe]at E;unfold iV bT at E;have Jk:=ak am;have B:=ak T;have EV:=ak yB;have Z:=ak ao;have v:=ak SD;have CD:=ak n;unfold um;clear d O SD yB am T ao Qx n;go_wp2_with fail;rw[<- CD.J];refine E.J.mono ?_;rintro e f ⟨rfl,-,X4,M4,a⟩;obtain⟨x,r⟩:=nm (f.alloc (ξ #[θ ⟨#[]⟩,ι κ 0,ι κ 0] 30));have A:=oJ r;have y:x.heap.size=f.heap.size+1:=by rw[r];simp
 have s:=a.keep.size;have wF:x.heap[f.heap.size]?=σ (ξ #[θ ⟨#[]⟩,ι κ 0,ι κ 0] 30 (0,0)):=by rw[r];exact au f _
 have ac:x.heap[b.heap.size]?=σ (ξ #[θ ⟨#[]⟩,ι κ 0,ι κ 0] 30 (0,0)):=(A.block _ (by rw[v.J]at s;omega)).trans ((a.keep.block _ ⟨by rw[v.J];omega,Z.J⟩).trans EV.J);have an:=a.acU Jk.J B.J.size;have C:δ w.heap.size w x:=(B.J.trans (a.below Jk.J B.J.size)).trans (A.mono (ag B.J.size a.keep.size));have ap:¬M4 f.heap.size:=λc=>by have:=a.one.oS _ (a.one.sub _ c);omega
 have ad:¬M4 b.heap.size:=λc=>by
  rcases a.FY _ c with N|N
  . exact Z.J N
  . rw[v.J]at N;omega
 have QK:=g.J.on (C.mono g.J.size);have F:=ak (pj (a.one.wide A) QK (user:=iV) (text:=cT) (by decide));rw[show(tW l j m 1000 k push).bud=1000 from rfl,awf]at F;unfold iV cT at F;have aq:=ak an;have W:=ak C;have Qy:=ak (And.intro wF ac);have aa:=ak (And.intro ap ad);have ar:=ak y;have ax:=ak (show b.heap.size<f.heap.size from by rw[v.J]at s;omega);have Y4:=ak r;clear a A y wF ac an C ap ad QK r s;unfold um;go_wp2_with fail;rw[<- Y4.J];refine F.J.mono ?_;rintro e V ⟨rfl,-,X5,M5,i⟩;have aC:=i.keep.size;have y:=ar.J;have s:=ax.J;obtain⟨I,u⟩:=nm (V.alloc (ξ #[θ ⟨zD.toArray⟩,ι κ 0,ι κ 0] 30));have x8:=oJ u;have Fa:I.heap[V.heap.size]?=σ (ξ #[θ ⟨zD.toArray⟩,ι κ 0,ι κ 0] 30 (0,0)):=by rw[u];exact au V _
 have K:=(i.keep.block f.heap.size ⟨by omega,aa.J.1⟩).trans Qy.J.1;have L:=(i.keep.block b.heap.size ⟨by omega,aa.J.2⟩).trans Qy.J.2;have Y:δ w.heap.size w I:=(W.J.trans (i.below aq.J W.J.size)).trans (x8.mono (ag W.J.size i.keep.size));have G:=ak (Dp (zD,0,0) (zD,0,0) I);rw[bK rfl]at G;obtain⟨a0,a1,a2⟩:=aY L;obtain⟨b0,b1,b2⟩:=aY K;have a4:=aw L;have a5:=aw K;have yk:=ak Y;have ab:=ak u;unfold um zD at G;unfold zD at ab;clear i aC y s x8 Fa K L Y u;unfold um zD;go_wp2_with fail;rw[<- ab.J];refine G.J.mono ?_;rintro e w6 ⟨rfl,Ng⟩;have FD:=ak (yk.J.trans (Ng.mono yk.J.size));clear Ng;go_wp2_with fail;go_ret;exact⟨rfl,FD.J⟩
theorem One.told{o:sE}{w:ω}{p:Nat}{X M:Nat->Prop}{st:pG}(a:One o w p X M st):Vw st:=by obtain⟨mt,c,d,b,a,rfl,-⟩:=a;exact a.fits
theorem pI{a b c:υ}(d:n.heap[m]?=σ (ξ #[v,s,u,a,b,c] i (0,0))) :
 n.cell? ⟨m,0,ν⟩=σ v/\n.cell? ⟨m,1,ν⟩=σ s/\n.cell? ⟨m,2,ν⟩=σ u/\n.cell? ⟨m,3,ν⟩=σ a/\n.cell? ⟨m,4,ν⟩=σ b/\n.cell? ⟨m,5,ν⟩=σ c:=by simp[World.cell?,d]
theorem wA{o:sE}{w:ω}{p:Nat}{X M M2:Nat->Prop}{st:pG}(i:∀a,M a->m<=a)(j:m<=w.heap.size)(c:vu o w n p X M l M2 st)(d:Obj):δ m w (n.alloc d)/\(∀a,M2 a->m<=a)/\¬M2 n.heap.size/\n.heap.size<(n.alloc d).heap.size/\One o (n.alloc d) p (λa=>l a\/(n.heap.size<=a/\a<(n.alloc d).heap.size)) M2 st/\(∀b,b<w.heap.size->¬M b->(n.alloc d).heap[b]?=w.heap[b]?/\¬M2 b):=by have e:δ n.heap.size n (n.alloc d):=(ah _ _).alloc (ae _) _;have s:=c.keep.size;refine⟨(c.below i j).trans (e.mono (by omega)),c.acU i j,λf=>?_,by simp,c.one.wide e,λb r k=>⟨(e.block b (by omega)).trans (c.keep.block b ⟨r,k⟩),λf=>?_⟩⟩;{have:=c.one.oS _ (c.one.sub _ f);omega};rcases c.FY b f with g|g;{exact k g};omega
theorem Qk{w:ω}{f:o8}{ops:List OpS}{n query:ByteArray}(hg:rU w)(hs:bu w 3 v ops.length (ops.flatMap opL))(hl:ops.length<=9000000000000000000)(hu:∀ci∈ops,ci.2.1.size<=maxLen)(Rb:x.size<=maxLen)(has:n.size<=maxLen) :
 Calls prog 3 #[f.val,v,θ x,θ r,θ n,θ query] w λd w'=>d=τ (.bool true)/\δ w.heap.size w w':=by
 obtain⟨va,dq,rfl⟩:=bu.slice hs;obtain⟨O,L,P,N,push,G⟩:=f;have Y:o8.val ⟨O,L,P,N,push,G⟩=χ #[ι κ O,ι κ L,ι κ P,.bool N,.bool push,ι κ G]:=rfl;obtain⟨f,hf⟩:=nm (⟨O,L,P,N,push,G⟩:o8);rw[<- hf]at Y ⊢;obtain⟨cc,hW⟩:=nm (w.alloc (ξ #[ι κ O,ι κ L,ι κ P,.bool N,.bool push,ι κ G] 23));have ia:=oJ hW;have Zl:cc.heap[w.heap.size]?=σ (ξ #[ι κ O,ι κ L,ι κ P,.bool N,.bool push,ι κ G] 23 (0,0)):=by rw[hW];exact au w _
 have Fj:=ak (ED f (hg.on (ia.mono hg.size)));have l:=ak hg;have HS:=ak hs;have HU:=ak hu;have qg:=ak ia;have HW:=ak hW;have b1:=ak Zl;have ce:=aw Zl;rw[Y]at Fj ⊢;have bY:=ak Y;clear hg hs hu ia hW Zl hf Y;go_in;go_wp2_with fail;rw[<- HW.J];refine Fj.J.mono ?_;rintro d w1 ⟨rfl,cx⟩;have pC:=qg.J.trans (cx.mono qg.J.size);have mq:=(cx.block _ ce).trans b1.J;obtain⟨j0,j1,j2,j3,j4,j5⟩:=pI mq;have EO:=aw mq;have EU:=l.J.on (pC.mono l.J.size);have Ww:=ak (B1 (f:=f) EU (bu.below HS.J pC (ae _)) hl HU.J (X0:=λ_=>False) (λF g=>g.elim));rw[bY.J]at Ww;have gq:=ak pC;clear cx pC mq EU;go_wp2_with fail;refine Ww.J.mono ?_;rintro d w2 ⟨p,X2,M2,rfl,qS,-,-,hm,cG⟩;have oW:=gq.J.trans (cG.mono gq.J.size);have Wa:∀F,M2 F->w.heap.size<=F:=λF g=>ag gq.J.size (hm F g);have sC:=l.J.on (oW.mono l.J.size);have HQ:=ak (uQ query w2 sC.laid (by have:=sC.size;omega));have xQ:=ak qS;have OZ:=ak Wa;have jl:=ak oW;clear qS hm cG oW Wa sC j0 j1 j2 j3 j4 j5;go_wp2_with fail;refine HQ.J.mono ?_;rintro d w3 ⟨rfl,fI⟩;have K:=jl.J.trans (fI.mono jl.J.size)
 cases hq:Gs query with
 |false=>
   have nF:=ak K;clear fI K;go_wp2_with fail;go_ret;exact⟨rfl,nF.J⟩
 |true=>
   have Qx:=l.J.on (K.mono l.J.size);obtain⟨st,je⟩:=nm (xZ ⟨[],[]⟩ ops);rw[<- je]at xQ;have W:=xQ.J.wide fI;have a5:=ak (xH (bud:=f.opt.bud) W.told hq has);have HA:=ak (pj W Qx (user:=n) (text:=query) has);have b7:=ak (tY (bud:=f.opt.bud) (st:=st) (user:=n) hq);rw[b7.J]at HA;have yn:=ak W;have nF:=ak K;clear fI K Qx W je;go_wp2_with fail;refine HA.J.mono ?_;rintro d t ⟨rfl,-,X4,M4,Nf⟩;obtain⟨i,z⟩:=nm ((sF f.opt.bud st n query).1);rw[<- z]at a5 ⊢;have Hk:=ak z;obtain⟨AE,bm,bt,bi,aa,-⟩:=wA OZ.J nF.J.size Nf (ξ #[θ ⟨i.1.toArray⟩,ι κ (i.2.1:Nat),ι κ (i.2.2:Nat)] 30);have wF:=au t (ξ #[θ ⟨i.1.toArray⟩,ι κ (i.2.1:Nat),ι κ (i.2.2:Nat)] 30);obtain⟨W4,QC⟩:=nm (t.alloc (ξ #[θ ⟨i.1.toArray⟩,ι κ (i.2.1:Nat),ι κ (i.2.2:Nat)] 30));rw[<- QC]at AE bi aa wF;have zO:=ak (nF.J.trans AE);have QK:=l.J.on (zO.J.mono l.J.size);have HE:=ak (pj aa QK (user:=x) (text:=r) Rb);have ck:=ak aa;have b2:=ak bm;have b4:=ak bt;have Qy:=ak wF;have Y4:=ak QC;unfold um;clear Nf z AE bm bt aa wF QC QK;go_wp2_with fail;rw[<- Y4.J];refine HE.J.mono ?_;rintro d B ⟨rfl,AP,X5,M5,Ub⟩;obtain⟨a,A⟩:=nm (sF f.opt.bud st x r);rw[<- A]at Ub ⊢;have T:=ak A;have aC:=ak AP;obtain⟨AG,bo,bv,bl,av,ac⟩:=wA b2.J zO.J.size Ub (ξ #[θ ⟨a.1.1.toArray⟩,ι κ (a.1.2.1:Nat),ι κ (a.1.2.2:Nat)] 30);have Fa:=au B (ξ #[θ ⟨a.1.1.toArray⟩,ι κ (a.1.2.1:Nat),ι κ (a.1.2.2:Nat)] 30);obtain⟨W5,GY⟩:=nm (B.alloc (ξ #[θ ⟨a.1.1.toArray⟩,ι κ (a.1.2.1:Nat),ι κ (a.1.2.2:Nat)] 30));rw[<- GY]at AG bl av Fa ac;have ad:=ac _ bi b4.J;have E:=ak (And.intro (ad.1.trans Qy.J) ad.2);have yk:=ak (zO.J.trans AG);have RM:=l.J.on (yk.J.mono l.J.size);have ax:=ak (pj av RM (user:=n) (text:=query) has);rw[tY (bud:=f.opt.bud) (st:=a.2) (user:=n) hq]at ax;have b3:=ak bo;have b5:=ak bv;have b0:=ak Fa;have ba:=ak (show t.heap.size<W5.heap.size from aw E.J.1);have b9:=ak GY;unfold um;clear Ub A AG bo bv av Fa GY RM ac ad AP;go_wp2_with fail;rw[<- b9.J];refine ax.J.mono ?_;rintro d C ⟨rfl,-,X6,M6,Z0⟩;obtain⟨j,an⟩:=nm ((sF f.opt.bud a.2 n query).1);rw[<- an];have bw:=ak an;obtain⟨JX,-,-,-,-,V⟩:=wA b3.J yk.J.size Z0 (ξ #[θ ⟨j.1.toArray⟩,ι κ (j.2.1:Nat),ι κ (j.2.2:Nat)] 30);have U:=au C (ξ #[θ ⟨j.1.toArray⟩,ι κ (j.2.1:Nat),ι κ (j.2.2:Nat)] 30);obtain⟨D,Vi⟩:=nm (C.alloc (ξ #[θ ⟨j.1.toArray⟩,ι κ (j.2.1:Nat),ι κ (j.2.2:Nat)] 30));rw[<- Vi]at JX U V;have Ql:=(V _ ba.J E.J.2).1.trans E.J.1;have al:=(V _ bl b5.J).1.trans b0.J;have FD:=ak (yk.J.trans JX);have yl:=ak (λwr (g:δ D.heap.size D wr)=>(show(wr.cell? ⟨t.heap.size,0,ν⟩=σ (θ ⟨i.1.toArray⟩)/\wr.cell? ⟨t.heap.size,1,ν⟩=σ (ι κ (i.2.1:Nat))/\wr.cell? ⟨t.heap.size,2,ν⟩=σ (ι κ (i.2.2:Nat)))/\(wr.cell? ⟨B.heap.size,0,ν⟩=σ (θ ⟨a.1.1.toArray⟩)/\wr.cell? ⟨B.heap.size,1,ν⟩=σ (ι κ (a.1.2.1:Nat))/\wr.cell? ⟨B.heap.size,2,ν⟩=σ (ι κ (a.1.2.2:Nat)))/\(wr.cell? ⟨C.heap.size,0,ν⟩=σ (θ ⟨j.1.toArray⟩)/\wr.cell? ⟨C.heap.size,1,ν⟩=σ (ι κ (j.2.1:Nat))/\wr.cell? ⟨C.heap.size,2,ν⟩=σ (ι κ (j.2.2:Nat)))/\t.heap.size<wr.heap.size/\B.heap.size<wr.heap.size/\C.heap.size<wr.heap.size/\δ w.heap.size w wr from by
    have z:=(g.block _ (aw Ql)).trans Ql;have A:=(g.block _ (aw al)).trans al;have hB:=(g.block _ (aw U)).trans U;exact⟨aY z,aY A,aY hB,aw z,aw A,aw hB,FD.J.trans (g.mono FD.J.size)⟩))
   have a6:=ak (Dq a5.J D);have ca:=ak Vi;have ar:=(Z0.keep.block t.heap.size ⟨ba.J,E.J.2⟩).trans E.J.1;obtain⟨x0,x1,x2⟩:=aY ar;have cg:=aw ar;unfold um at a6 ⊢;clear Z0 an JX U V Ql al Vi ar;go_wp2_with fail;rw[<- ca.J];refine a6.J.mono ?_;rintro d w7 ⟨rfl,Nh⟩;obtain⟨-,-,-,-,-,-,Er⟩:=yl.J w7 Nh;have ap:=l.J.on (Er.mono l.J.size);have Qz:=ak (Lv r w7 ap.laid (by have:=ap.size;omega));have am:=ak Nh;clear Nh Er ap x0 x1 x2 cg;go_wp2_with fail;refine Qz.J.mono ?_;rintro d w8 ⟨⟨a0,a1,a2,a3,a4,p5,n5,c5,p6,n6,c6,p7,n7,c7,a8,p9,n9,c9,Zi,Zj,Zk,H,eb,rfl,cf,kR⟩,AJ⟩;obtain⟨W8,ao⟩:=nm (w8.alloc (ξ #[θ a0,θ a1,ι κ a2,θ a3,ι κ a4,ψ p5 n5 c5,ψ p6 n6 c6,ψ p7 n7 c7,ι κ a8,ψ p9 n9 c9,ψ Zi Zj Zk] 41));have YH:δ D.heap.size D W8:=by rw[ao];exact(am.J.trans (AJ.mono am.J.size)).alloc (ag am.J.size AJ.size) _
   obtain⟨-,-,-,-,-,-,Vs⟩:=yl.J W8 YH;have aq:=l.J.on (Vs.mono l.J.size);have b6:=ak (uQ r W8 aq.laid (by have:=aq.size;omega));have bb:=ak YH;have cb:=ak ao;have bx:=ak kR;clear cf kR AJ YH Vs aq ao;go_wp2_with fail;rw[<- cb.J];refine b6.J.mono ?_;rintro d w9 ⟨rfl,Yq⟩;have bc:=bb.J.trans (Yq.mono bb.J.size);obtain⟨⟨x0,x1,x2⟩,⟨y0,Q,y2⟩,⟨z0,z1,z2⟩,l4,l5,l6,bd⟩:=yl.J w9 bc;have c:=ak bd;have k:=ak (Dp i j w9);have y:(x.toList==[97,100,109,105,110])=iZ x iV:=dK _ _;have R:Hid (a.2=st->i=j):=ak (λh=>by rw[Hk.J,bw.J,h]);have ab:Hid (a.1.2.1≠0->a.2=st):=ak (λh=>by rw[T.J]at h ⊢;exact T9 h);clear Yq bc bd;have b8:Hid (Gs r=false->iZ x iV=false->(a.1=([],4,0)/\H=0)\/(H≠0/\a.1.2.1≠0)):=ak (λh1 h2=>by
    rcases bx.J with⟨cl,I,he⟩|I
    . exact .inl ⟨by rw[T.J];exact akX I h1 h2,he⟩
    . refine .inr ⟨aC.J _ I,?_⟩
      rw[T.J];by_cases a9:300<r.size
      . unfold sF
        rw[aF a9];simp
      . rw[Dl a9 I]
        exact aC.J _ I)
   unfold um at k
   cases bS:Gs r with
   |true=>
     have u:=R.J (by rw[T.J];exact tY bS);subst u;rw[bK rfl]at k
     cases g:iZ x iV with
     |true=>
       rw[g]at y;by_cases m:a.1.2.1=0
       . rw[m]at Q
         go_wp2_with fail;refine k.J.mono ?_;rintro d s ⟨rfl,b⟩;have e:=ak (c.J.trans (b.mono c.J.size));clear b;go_wp2_with fail;go_ret;exact⟨rfl,e.J⟩
       . have Z:(((a.1.2.1:Nat):Int)==0)=false:=by rw[aL];omega
         go_wp2_with fail;refine k.J.mono ?_;rintro d s ⟨rfl,b⟩;have e:=ak (c.J.trans (b.mono c.J.size));clear b;go_wp2_with fail;go_ret;exact⟨rfl,e.J⟩
     |false=>
       rw[g]at y;by_cases bg:H=0
       . subst bg
         by_cases m:a.1.2.1=0
         . rw[m]at Q
           go_wp2_with fail;refine k.J.mono ?_;rintro d s ⟨rfl,b⟩;have e:=ak (c.J.trans (b.mono c.J.size));clear b;go_wp2_with fail;go_ret;exact⟨rfl,e.J⟩
         . have Z:(((a.1.2.1:Nat):Int)==0)=false:=by rw[aL];omega
           go_wp2_with fail;refine k.J.mono ?_;rintro d s ⟨rfl,b⟩;have e:=ak (c.J.trans (b.mono c.J.size));clear b;go_wp2_with fail;go_ret;exact⟨rfl,e.J⟩
       . have cd:((H:Int)==0)=false:=by rw[aL];omega
         by_cases m:a.1.2.1=0
         . rw[m]at Q
           go_wp2_with fail;refine k.J.mono ?_;rintro d s ⟨rfl,b⟩;have e:=ak (c.J.trans (b.mono c.J.size));clear b;go_wp2_with fail;go_ret;exact⟨rfl,e.J⟩
         . have Z:(((a.1.2.1:Nat):Int)==0)=false:=by rw[aL];omega
           go_wp2_with fail;refine k.J.mono ?_;rintro d s ⟨rfl,b⟩;have e:=ak (c.J.trans (b.mono c.J.size));clear b;go_wp2_with fail;go_ret;exact⟨rfl,e.J⟩
   |false=>
     cases g:iZ x iV with
     |true=>
       rw[g]at y;by_cases m:a.1.2.1=0
       . rw[m]at Q
         go_wp2_with fail;go_ret;exact⟨rV (by first|rfl|exact y|simp[y]),c.J⟩
       . have Z:(((a.1.2.1:Nat):Int)==0)=false:=by rw[aL];omega
         have u:=R.J (ab.J m);subst u;rw[bK rfl]at k;go_wp2_with fail;refine k.J.mono ?_;rintro d s ⟨rfl,b⟩;have e:=ak (c.J.trans (b.mono c.J.size));clear b;go_wp2_with fail;go_ret;exact⟨rfl,e.J⟩
     |false=>
       rw[g]at y;rcases b8.J bS g with⟨be,rfl⟩|⟨bg,m⟩
       . have u:=R.J (ab.J (by rw[be];decide))
         subst u;rw[bK rfl]at k;rw[be]at Q y2;go_wp2_with fail;refine k.J.mono ?_;rintro d s ⟨rfl,b⟩;have e:=ak (c.J.trans (b.mono c.J.size));clear b;go_wp2_with fail;go_ret;exact⟨rfl,e.J⟩
       . have cd:((H:Int)==0)=false:=by rw[aL];omega
         have Z:(((a.1.2.1:Nat):Int)==0)=false:=by rw[aL];omega
         have u:=R.J (ab.J m);subst u;rw[bK rfl]at k;go_wp2_with fail;refine k.J.mono ?_;rintro d s ⟨rfl,b⟩;have e:=ak (c.J.trans (b.mono c.J.size));clear b;go_wp2_with fail;go_ret;exact⟨rfl,e.J⟩
end
