import Derived.Test.YtcoaphfimellcaaGreatDoorFBL
import Derived.Test.YtcoaphfimellcaaGreatDoorFBM
import Derived.Test.YtcoaphfimellcaaGreatDoorFBN
import Derived.Test.YtcoaphfimellcaaGreatDoorFAL
set_option maxHeartbeats 0
set_option maxRecDepth 100000
namespace Go.Proofs.YtcoaphfimellcaaGreatDoor
open Go.RowKit
open _root_.Go.Proofs.Tryz
open Option renaming some→σ,none→ν
open Go.IntKind renaming i64→κ
open Go.Ending renaming returned→τ
open Go.Obj renaming cells→ξ
open Go renaming World→ω,Value→υ
open Go.RowKit renaming Below→δ
open Go.Value renaming int→ι,string→θ,slice→ψ,pointer→π,agg→χ
variable{m t:Nat}{x r:ByteArray}{v s u:υ}{n:ω}{l:Nat->Prop}{i:TypeId}
section
open Go.Maps
theorem Ss{o:uS}{w:ω}{p mt Q:Nat}{X:Nat->Prop}{n:List (Lit×ij)}{j:List (Lit×oV)}(s:df o w p mt Q X n j){f:ByteArray}(P:f.size<=maxLen){pl:Nat}{t:Nm}(O:nT t){g:υ}{b:List mK}(m:vQ w g b)(L:∀R∈b,qg R.2)(N:b.length<=300)(u:qS w)(v:vR w) :
 Calls prog 29 #[π (σ ⟨p,0,ν⟩),θ f,.iface 113 (χ #[ι κ pl,θ t.1,ι κ t.2,g])] w λy w'=>y=τ (aip (lM o.bud (de n j) f pl t b))/\δ w.heap.size w w':=by
 have Z:∀w,(Instr.typeAssert (.iface 113 (χ #[ι κ pl,θ t.1,ι κ t.2,g])) 74 113 true).run prog w=.ok (.tuple #[χ #[ι κ pl,θ t.1,ι κ t.2,g],.bool true]) w:=λw=>by kernel_rfl
 obtain⟨T,K,rfl⟩:=m.slice;obtain⟨r,e⟩:=nm ((w.alloc (iQ 0 0)).alloc (obK pl t.1 t.2 T b.length K));have a:=xI e;have V:r.heap.size=w.heap.size+2:=by rw[e];simp
 have k:r.heap[w.heap.size]?=σ (iQ 0 0):=by rw[e];exact(fu _ _ (by simp)).trans (ak w _)
 have A:=au (V2 (s.below a) P (pl:=pl) O (m.below a (ae _)) L N (u.below a (ae _)) (v.below a (ae _)));have x:=au a;have D:=au e;have C:=au k;have z:=ay k;clear s a e k m u v;go_in;go_wp2_with fail;rw[<- D.J];refine A.J.mono ?_;rintro y w2 ⟨rfl,i⟩;obtain⟨d,l⟩:=nm (lM o.bud (de n j) f pl t b);rw[<- l];have c:=(i.block _ z).trans C.J;have B:=au (x.J.trans (i.mono x.J.size));obtain⟨W,Y⟩:=br c;have y0:=fP c 0;have y1:=fP c 1;have U:=ay c;have E:=au c;have F:=au l;clear i c l;go_wp2_with fail;obtain⟨⟨G,H⟩,I⟩:=ik B.J (ae _) E.J (ι κ (d.2.1:Nat)) (ι κ (d.2.2:Nat));refine aD (v:=.tuple #[θ ⟨d.1.toArray⟩,χ #[ι κ (d.2.1:Nat),ι κ (d.2.2:Nat)]]) (by simp[results,results29,go_sem,G,H];try rfl) rfl ?_;exact⟨by rw[<- F.J];rfl,I⟩
theorem xo{a:Bool}{b c:Vy}{d e:qV}:(if a then(b,d)else(c,e))=(if a then b else c,if a then d else e):=by cases a<;>rfl
theorem AE{st:qV}{a:Bt}(d:∀c,a≠.query c):J2 m st x a=(if jN x lX then([],(yE st a).1.1,(yE st a).1.2)else([],4,0),if jN x lX then(yE st a).2 else st):=by cases a with|query c=>exact absurd rfl (d c)|create b cols=>exact xo|drop b=>exact xo|load b j=>exact xo|BP e b f g i=>exact xo|ED e b=>exact xo
theorem G8(a:υ)(w:ω):(Instr.typeAssert (.iface 171 a) 74 113 true).run prog w=.ok (.tuple #[χ #[ι κ 0,θ ⟨#[]⟩,ι κ 0,ψ ν 0 0],.bool false]) w:=by kernel_rfl
theorem Fx(a:υ)(w:ω):(Instr.typeAssert (.iface 171 a) 74 116 true).run prog w=.ok (.tuple #[.iface 171 a,.bool true]) w:=by kernel_rfl
theorem aaM(a:υ)(w:ω):Sem.run prog (method 566 171 a "quarry/quarry.apply") w=.ok (278,a) w:=by kernel_rfl
theorem LO(a:υ)(w:ω):(Instr.typeAssert (.iface 133 a) 74 113 true).run prog w=.ok (.tuple #[χ #[ι κ 0,θ ⟨#[]⟩,ι κ 0,ψ ν 0 0],.bool false]) w:=by kernel_rfl
theorem Ki(a:υ)(w:ω):(Instr.typeAssert (.iface 133 a) 74 116 true).run prog w=.ok (.tuple #[.iface 133 a,.bool true]) w:=by kernel_rfl
theorem aiK(a:υ)(w:ω):Sem.run prog (method 566 133 a "quarry/quarry.apply") w=.ok (273,a) w:=by kernel_rfl
theorem LP(a:υ)(w:ω):(Instr.typeAssert (.iface 179 a) 74 113 true).run prog w=.ok (.tuple #[χ #[ι κ 0,θ ⟨#[]⟩,ι κ 0,ψ ν 0 0],.bool false]) w:=by kernel_rfl
theorem Kj(a:υ)(w:ω):(Instr.typeAssert (.iface 179 a) 74 116 true).run prog w=.ok (.tuple #[.iface 179 a,.bool true]) w:=by kernel_rfl
theorem aiL(a:υ)(w:ω):Sem.run prog (method 566 179 a "quarry/quarry.apply") w=.ok (280,a) w:=by kernel_rfl
theorem Kk(a:υ)(w:ω):(Instr.typeAssert (.iface 188 a) 74 113 true).run prog w=.ok (.tuple #[χ #[ι κ 0,θ ⟨#[]⟩,ι κ 0,ψ ν 0 0],.bool false]) w:=by kernel_rfl
theorem G9(a:υ)(w:ω):(Instr.typeAssert (.iface 188 a) 74 116 true).run prog w=.ok (.tuple #[.iface 188 a,.bool true]) w:=by kernel_rfl
theorem afb(a:υ)(w:ω):Sem.run prog (method 566 188 a "quarry/quarry.apply") w=.ok (285,a) w:=by kernel_rfl
theorem Ha(a:υ)(w:ω):(Instr.typeAssert (.iface 136 a) 74 113 true).run prog w=.ok (.tuple #[χ #[ι κ 0,θ ⟨#[]⟩,ι κ 0,ψ ν 0 0],.bool false]) w:=by kernel_rfl
theorem Fy(a:υ)(w:ω):(Instr.typeAssert (.iface 136 a) 74 116 true).run prog w=.ok (.tuple #[.iface 136 a,.bool true]) w:=by kernel_rfl
theorem aaN(a:υ)(w:ω):Sem.run prog (method 566 136 a "quarry/quarry.apply") w=.ok (276,a) w:=by kernel_rfl
theorem aaO{o:uS}{w:ω}{p mt C:Nat}{X:Nat->Prop}{g:List (Lit×ij)}{j:List (Lit×oV)}(m:df o w p mt C X g j){i:ByteArray}(O:i.size<=maxLen){D:Nat}{u:υ}{x:Bt}(G:LN w D u x)(t:Vo x)(K:qS w)(L:vR w) :
 Calls prog 29 #[π (σ ⟨p,0,ν⟩),θ i,u] w λl w'=>l=τ (aip (J2 o.bud (de g j) i x).1)/\Left o w w' p mt C X g (J2 o.bud (de g j) i x).2:=by cases G with|X8 b cols u r=>(obtain⟨d,k,n,s⟩:=t;refine(qW m (user:=i) (res:=sC (de g j) b cols) (G8 _) (Fx _) (aaM _) call278 (λy v c f=>VI f d k n s (bz.below (bz.fM r) c (ae _)))).mono ?_;rintro l w' ⟨rfl,e⟩;rw[AE (λ_ a=>by cases a)];exact⟨rfl,e⟩)|akt b=>(refine(qW m (user:=i) (res:=JV (de g j) b) (LO _) (Ki _) (aiK _) call273 (λy v c f=>aeu f t)).mono ?_;rintro l w' ⟨rfl,e⟩;rw[AE (λ_ a=>by cases a)];exact⟨rfl,e⟩)|aku b u Q P r N=>(obtain⟨d,k,n,s⟩:=t;refine(qW m (user:=i) (res:=Eh (de g j) b P) (LP _) (Kj _) (aiL _) call280 (λy v c f=>aeK f d k n s (bz.below (bz.fM r) c (ae _)) (N.mono (λ_ _ _ B=>⟨B.1,bz.below (bz.fM B.2) c (ae _)⟩)))).mono ?_;rintro l w' ⟨rfl,e⟩;rw[AE (λ_ a=>by cases a)];exact⟨rfl,e⟩)|ae0 A b cols a z u r=>(obtain⟨d,k,n,s,E,F⟩:=t;refine(qW m (user:=i) (res:=yD (de g j) A b cols a z) (Kk _) (G9 _) (afb _) call285 (λy v c f=>aaw f d k n E (bz.below (bz.fM r) c (ae _)) F)).mono ?_;rintro l w' ⟨rfl,e⟩;rw[AE (λ_ a=>by cases a)];exact⟨rfl,e⟩)|X9 A b=>(obtain⟨d,k⟩:=t;refine(qW m (user:=i) (res:=yB (de g j) A b) (Ha _) (Fy _) (aaN _) call276 (λy v c f=>VH f d k)).mono ?_;rintro l w' ⟨rfl,e⟩;rw[AE (λ_ a=>by cases a)];exact⟨rfl,e⟩)|ae1 z b u Q T r I=>obtain⟨R,l,H,d,k,n,s,-⟩:=t;cases H;refine(Ss m O (pl:=z) (t:=b) d (aiF r I) (Em n) (by rw[aR];exact s) K L).mono ?_;rintro l w' ⟨rfl,c⟩;exact⟨rfl,Left.same m c⟩
structure rK (w:ω):Prop where
 laid:Laid w
 kinds:qS w
 pow:vR w
 globs:Dx w
 ops:Qa w
theorem afc:prog.globalNamed "internal/strconv.uint64pow10"=σ 9:=by kernel_rfl
theorem rK.on{w w':ω}(a:rK w)(b:δ 12 w w'):rK w' where
 laid:=λc k i=>(b.cell (p:=(Ad 0 c)) (show 0<12 by decide)).trans (a.laid c k i)
 kinds:=⟨ai a.kinds.1 b.size,λe f=>(b.cell (p:=(Ad 1 e)) (show 1<12 by decide)).trans (a.kinds.2 e f)⟩
 pow:=by
  have d:=a.pow;unfold vR Lib.TabIs World.var? at *;rw[afc]at *;simp only[Option.bind_some]at d ⊢;rw[b.block 9 (by decide)];exact d
 globs:=a.globs.below b (ae _)
 ops:=λc j g=>(b.cell (p:=(Ad 8 c)) (show 8<12 by decide)).trans (a.ops c j g)
theorem rK.size{w:ω}(a:rK w):12<=w.heap.size:=a.globs.size
theorem H8.told{w':ω}{f:Ending}{S:ByteArray}(g:H8 w' m f S):∃c b d,f=τ (.tuple #[c,χ #[ι κ (b:Nat),ι κ (d:Nat)]])/\Ua c/\((∃e,fg S=.inl e/\b=0/\arW w' m c e)\/(∃q,fg S=.inr q/\b=q.1/\d=q.2/\b≠0)):=by obtain⟨c,b,d,i,j,a⟩:=g;refine⟨c,b,d,i,j,?_⟩;cases hr:fg S with|inl e=>rw[hr]at a;exact .inl ⟨e,rfl,a.1,a.2⟩|inr q=>rw[hr]at a;exact .inr ⟨q,rfl,a.1,a.2.1,a.2.2⟩
def doV(a:Vy):υ:=.tuple #[θ ⟨a.1.toArray⟩,ι κ (a.2.1:Nat),ι κ (a.2.2:Nat)]
theorem anG{o:uS}{w:ω}{p mt:Nat}{X:Nat->Prop}{b:List (Lit×ij)}{e:List (Lit×oV)}(Q:df o w p mt m X b e)(E:rK w)(hu:x.size<=maxLen) :
 Calls prog 20 #[π (σ (Ad p 0)),θ x,θ r] w λy w'=>y=τ (doV (oE o.bud (de b e) x r).1)/\(∀q,fg r=.inr q->q.1≠0)/\Left o w w' p mt m X b (oE o.bud (de b e) x r).2:=by
 by_cases G:300<r.size;{have KN:((r.size:Nat):Int)>300:=(by omega);have HR:Hid (oE o.bud (de b e) x r=(([],1,0),de b e)):=au (by unfold oE;rw[aF G]);have B:Hid (∀q,fg r=.inr q->q.1≠0):=au (λq t=>by unfold fg at t;rw[aF G]at t;cases t;decide);have g:=au Q;clear Q E G;go_in;go_wp2_with fail;refine aD (by simp[results,results20,go_sem];rfl) rfl ?_;rw[HR.J];exact⟨rfl,B.J,Left.same g.J (ah _ _)⟩}
 have KN:¬((r.size:Nat):Int)>300:=by omega
 have HP:=au (aaL r w (by omega) E.globs E.ops);have g:=au Q;have HG:=au E;have HL:=au G;clear Q E G;go_in;go_wp2_with fail;refine HP.J.mono ?_;rintro y a ⟨hp,cG⟩;obtain⟨a4,i,c,rfl,hv,lA⟩:=hp.told;have P:δ a.heap.size a (a.alloc (iQ (i:Nat) (c:Nat))):=(ah _ _).alloc (ae _) _;have v:=ak a (iQ (i:Nat) (c:Nat));have⟨W1,V⟩:=nm (a.alloc (iQ (i:Nat) (c:Nat)));rw[<- V]at P v;have HF:=au (sq i c W1);have k:=au cG;have l:=au P;have sJ:=au v;have FW:=au V;have a5:=au hv;have a0:=br v;obtain⟨k0,k1⟩:=a0;have E6:=ay v;rcases lA with⟨ax,j,WB,L⟩|⟨q,j,ac,Ik,Y⟩
 {have O:=au j;have al:=au L;have ao:=au WB;clear hp cG P v V j L WB;have a1:∃a2 a3,a4=.iface a2 a3:=(by have L:=al.J _ λ_ _ _=>rfl;cases L<;>exact⟨_,_,rfl⟩);obtain⟨tv,uv,rfl⟩:=a1;clear hv;go_wp2_with fail;rw[<- FW.J];refine HF.J.mono ?_;rintro y H ⟨rfl,f⟩;have D:decide (i≠0)=false:=(by simp[ao.J]);rw[D];have z:δ w.heap.size w H:=(k.J.trans (l.J.mono k.J.size)).trans (f.mono (ag k.J.size l.J.size));have ap:=au (aeE (g.J.below z));have U:=au z;have u:=(f.block _ E6).trans sJ.J;have EA:=au u;have av:=ay u;have Ac:∀d,d<a.heap.size->H.heap[d]?=a.heap[d]?:=λd C=>(f.block d (ai C l.J.size)).trans (l.J.block d C);have ad:=au (show a.heap.size<=H.heap.size/\_ from⟨ag l.J.size f.size,Ac⟩);clear f z u D Ac;go_wp2_with fail;refine ap.J.mono ?_;rintro y w3 ⟨rfl,T⟩;have K:=U.J.trans (T.mono U.J.size);have W:=(T.block _ av).trans EA.J;have aa:=ay W;have am:w.heap.size<=a.heap.size:=k.J.size;have aq:=au (g.J.wide K am aa);have ab:=HG.J.on (K.mono HG.J.size);have an:=au (aaO aq.J hu (al.J w3 λd _ C=>(T.block d (ai C ad.J.1)).trans (ad.J.2 d C)) (Rq O.J) ab.kinds ab.pow);have Dg:=au K;have FT:=au W;clear T K W ab;go_wp2_with fail;refine an.J.mono ?_;rintro y I ⟨rfl,R⟩;have n:I.heap[a.heap.size]?=σ (iQ (i:Nat) (c:Nat)):=(by obtain⟨RJ,BL,-,-,F,-⟩:=R;refine(F.block _ ⟨aa,λhm=>?_⟩).trans FT.J;have:=g.J.sV _ (g.J.sub _ hm);omega);have⟨A,hx⟩:=nm (J2 o.bud (de b e) x ax);rw[<- hx]at R ⊢;have jM:=λW9 aC=>Left.ends (W9:=W9) g.J Dg.J am aa R aC;have HE:=au jM;have s:Hid (aY (λc=>c<I.heap.size/\c≠a.heap.size) I ((I.setCell (Ad a.heap.size 0) (ι κ (A.1.2.1:Nat))).setCell (Ad a.heap.size 1) (ι κ (A.1.2.2:Nat)))):=au (((aY.refl _ _).setCell (λF=>F.2 rfl) _).setCell (λF=>F.2 rfl) _);have⟨W5,N⟩:=nm ((I.setCell (Ad a.heap.size 0) (ι κ (A.1.2.1:Nat))).setCell (Ad a.heap.size 1) (ι κ (A.1.2.2:Nat)));have RF:W5.heap[a.heap.size]?=σ (iQ (A.1.2.1:Nat) (A.1.2.2:Nat)):=(by rw[N];exact aQ _ _ 1 _ _ _ (aQ _ _ 0 _ _ _ n));rw[<- N]at s;have ar:=au N;have⟨j0,j1⟩:=br RF;have Z:=au ((CZ (bud:=o.bud) (st:=de b e) (user:=x) HL.J O.J).trans hx.symm);have⟨g0,g1⟩:=br n;have y0:=fP n 0;have y1:=fP n 1;have a8:=ay n;have Xh:=au n;have B:Hid (∀q,fg r=.inr q->q.1≠0):=au (λq t=>by rw[O.J]at t;cases t);unfold aip;clear R n hx k0 k1 jM N RF;go_wp2_with fail;rw[<- ar.J];clear g0 g1 y0 y1;go_quiet(fail);go_wp2_with fail;refine aD (by simp[results,results20,go_sem];rfl) rfl ?_;rw[Z.J];exact⟨rfl,B.J,HE.J _ ⟨s.J.os,s.J.tape,s.J.output,s.J.size,s.J.block⟩⟩}
 have O:=au j;have D:decide (i≠0)=true:=by simpa using Y
 have HD:=au D;have B:Hid (∀q,fg r=.inr q->q.1≠0):=au (λq' Df=>by rw[j]at Df;cases Df;rw[<- ac];exact Y);have Z:Hid (oE o.bud (de b e) x r=(([],i,c),de b e)):=au (by rw[ac,Ik];exact Ej HL.J j);clear hp cG P v V j ac Ik Y D;rcases hv with rfl|⟨tv,uv,rfl⟩
 all_goals go_wp2_with fail;rw[<- FW.J];refine HF.J.mono ?_;rintro y H ⟨rfl,f⟩;rw[HD.J];have z:δ w.heap.size w H:=(k.J.trans (l.J.mono k.J.size)).trans (f.mono (ag k.J.size l.J.size));have u:=(f.block _ E6).trans sJ.J;have⟨g0,g1⟩:=br u;have U:=au z;clear f z u;go_wp2_with fail;go_quiet(fail);go_wp2_with fail;refine aD (by simp[results,results20,go_sem];rfl) rfl ?_;rw[Z.J];exact⟨rfl,B.J,Left.same g.J (below_drewN U.J _)⟩
def One(o:uS)(w:ω)(p:Nat)(X M:Nat->Prop)(st:qV):Prop:=∃mt mg tl gl,df o w p mt mg X tl gl/\de tl gl=st/\M=zg mt mg tl
structure zh (o:uS)(w w':ω)(p:Nat)(X M X' M':Nat->Prop)(st:qV):Prop where
 one:One o w' p X' M' st
 more:∀b,X b->X' b
 grows:∀b,X' b->X b\/w.heap.size<=b
 Kl:∀b,M' b->M b\/w.heap.size<=b
 keep:aY (λb=>b<w.heap.size/\¬M b) w w'
section
variable {o o2:uS} {w w':ω} {p p2:Nat} {X X' M M' M2:Nat->Prop} {st st2:qV}
theorem One.sub(a:One o w p X M st):∀b,M b->X b:=by obtain⟨mt,d,e,c,a,-,rfl⟩:=a;exact a.sub
theorem One.sV(a:One o w p X M st):∀b,X b->b<w.heap.size:=by obtain⟨mt,d,e,c,a,-,-⟩:=a;exact a.sV
theorem One.stays(b:One o w p X M st)(j:w.heap.size<=w'.heap.size)(g:∀a,a<w.heap.size->¬X a->w'.heap[a]?=w.heap[a]?)(i:∀a,M a->w'.heap[a]?=w.heap[a]?)(e:∀a,X a->X' a)(f:∀a,X' a->X a\/w.heap.size<=a)(l:∀a,X' a->a<w'.heap.size):One o w' p X' M st:=by obtain⟨mt,k,m,c,b,d,rfl⟩:=b;exact⟨mt,k,m,c,b.stays ⟨j,g,f⟩ i e l,d,rfl⟩
theorem One.wide(c:One o w p X M st)(d:δ w.heap.size w w'):One o w' p (λa=>X a\/(w.heap.size<=a/\a<w'.heap.size)) M st:=
 c.stays d.size (λa f _=>d.block a f) (λa g=>d.block a (c.sV a (c.sub a g))) (λa b=>.inl b) (λa b=>b.imp id (λe=>e.1)) (λa b=>by
  rcases b with b|b
  . exact ai (c.sV a b) d.size
  . exact b.2)
theorem One.put(d:One o w p X M st)(g:X m)(i:¬M m)(j:w'.heap.size=w.heap.size)(e:∀a,a≠m->w'.heap[a]?=w.heap[a]?):One o w' p X M st:=
 d.stays (by omega) (λa _ b=>e a (λc=>b (c ▸ g))) (λa f=>e a (λc=>i (c ▸ f))) (λ_ b=>b) (λ_ b=>.inl b) (λa b=>by rw[j];exact d.sV a b)
theorem One.set(a:One o w p X M st)(c:X m)(d:¬M m):One o (w.setCell ⟨m,t,ν⟩ v) p X M st:=
 a.put c d (by simp[World.setCell]) (λe b=>az _ _ _ _ b)
theorem zh.apart(g:zh o w w' p X M X' M' st)(c:One o2 w p2 X M2 st2)(f:∀a,M a->¬M2 a):∀a,M' a->¬M2 a:=λa e d=>by
 rcases g.Kl a e with b|b
 . exact f a b d
 . have:=c.sV a (c.sub a d);omega
theorem zh.of{i:ω}(d:δ w.heap.size w n)(c:zh o n i p (λa=>X a\/(w.heap.size<=a/\a<n.heap.size)) M l M' st)(e:aY (λa=>a<w.heap.size) i w')(m:One o w' p X' M' st)(j:∀a,l a->X' a)(k:∀a,X' a->l a\/w.heap.size<=a):zh o w w' p X M X' M' st where
 one:=m
 more:=λa f=>j a (c.more a (.inl f))
 grows:=λa f=>by
  have:=d.size;rcases k a f with b|b
  . rcases c.grows a b with(b|b)|b
    . exact .inl b
    . exact .inr b.1
    . exact .inr (by omega)
  . exact .inr b
 Kl:=λa f=>by
  have:=d.size;rcases c.Kl a f with b|b
  . exact .inl b
  . exact .inr (by omega)
 keep:=by
  have r:=d.size;refine⟨e.os.trans (c.keep.os.trans d.os),e.tape.trans (c.keep.tape.trans d.tape),e.output.trans (c.keep.output.trans d.output),ag r (ag c.keep.size e.size),λa g=>?_⟩;exact(e.block a g.1).trans ((c.keep.block a ⟨by have:=g.1;omega,g.2⟩).trans (d.block a g.1))
theorem zh.trans{M2:Nat->Prop}{g:qV}(c:zh o w w' p X M X' M' st)(d:zh o w' n p X' M' l M2 g):zh o w n p X M l M2 g where
 one:=d.one
 more:=λa e=>d.more a (c.more a e)
 grows:=λa e=>by
  rcases d.grows a e with b|b
  . exact c.grows a b
  . exact .inr (ag c.keep.size b)
 Kl:=λa e=>by
  rcases d.Kl a e with b|b
  . exact c.Kl a b
  . exact .inr (ag c.keep.size b)
 keep:=by
  refine⟨d.keep.os.trans c.keep.os,d.keep.tape.trans c.keep.tape,d.keep.output.trans c.keep.output,ag c.keep.size d.keep.size,λa f=>?_⟩;refine(d.keep.block a ⟨ai f.1 c.keep.size,λb=>?_⟩).trans (c.keep.block a f);rcases c.Kl a b with b|b
  . exact f.2 b
  . have:=f.1;omega
theorem zh.below(b:zh o w w' p X M X' M' st)(d:∀a,M a->m<=a)(f:m<=w.heap.size):δ m w w':=
 ⟨b.keep.os,b.keep.tape,b.keep.output,b.keep.size,λa e=>b.keep.block a ⟨by omega,λc=>by have:=d a c;omega⟩⟩
theorem zh.aiM(c:zh o w w' p X M X' M' st)(d:∀a,M a->m<=a)(f:m<=w.heap.size):∀a,M' a->m<=a:=λa e=>by
 rcases c.Kl a e with b|b
 . exact d a b
 . omega
end
theorem afd{o:uS}{w:ω}{p:Nat}{X M:Nat->Prop}{st:qV}(a:One o w p X M st)(m:rK w){text:ByteArray}(r:x.size<=maxLen) :
 Calls prog 20 #[π (σ ⟨p,0,ν⟩),θ x,θ text] w λf w'=>f=τ (doV (oE o.bud st x text).1)/\(∀q,fg text=.inr q->q.1≠0)/\∃X' M',zh o w w' p X M X' M' (oE o.bud st x text).2:=by obtain⟨mt,s,u,t,a,rfl,rfl⟩:=a;refine(anG a m r).mono ?_;rintro f w' ⟨rfl,n,i,g,j,k,l,e⟩;refine⟨rfl,n,_,_,⟨mt,s,i,g,k,j,rfl⟩,λb d=>.inl d,λb d=>?_,e,l⟩;rcases d with c|c;{exact .inl c};exact(e b c).imp (a.sub b) id
theorem Yc(k i l g:Int)(j push:Bool)(w:ω){X0:Nat->Prop}(r:∀a,X0 a->a<w.heap.size):Calls prog 18 #[χ #[ι κ k,ι κ i,ι κ l,.bool j,.bool push,ι κ g]] w λc w'=>∃p X M,c=τ (π (σ ⟨p,0,ν⟩))/\One (AA k i l g j push) w' p X M ⟨[],[]⟩/\(∀a,X0 a->X a)/\(∀a,X a->X0 a\/w.heap.size<=a)/\(∀a,M a->w.heap.size<=a)/\δ w.heap.size w w':=by
 refine(ait k i l g j push w).mono ?_;rintro c w' ⟨p,mt,f,rfl,d,s,t,u,e⟩;have n:∀a,zg mt f [] a->w.heap.size<=a:=λa e=>by
  rcases e with c|c|⟨m,b,-⟩
  . omega
  . omega
  . simp at b
 refine⟨p,λa=>X0 a\/zg mt f [] a,zg mt f [],rfl,⟨mt,f,[],[],?_,rfl,rfl⟩,λa b=>.inl b,λa b=>b.imp id (n a),n,e⟩;exact
  { fQ:=d.fQ
    Ch:=d.Ch
    Ci:=d.Ci
    ne:=d.ne
    tab:=λm b=>by simp at b
    apart:=List.Pairwise.nil
    gr:=λm b=>by simp at b
    names:=λm b=>by simp at b
    sub:=λa e=>.inr e
    sV:=λa b=>by
     rcases b with c|c
     . exact ai (r a c) e.size
     . exact d.sV a c
    pX:=λb=>by
     rcases b with c|c
     . have:=r p c;omega
     . exact d.pX c
    few:=d.few }
theorem aa0(d:n.heap[m]?=σ (ξ #[v,s,u] i (0,0)))(a b c:υ):(((n.setCell ⟨m,0,ν⟩ a).setCell ⟨m,1,ν⟩ b).setCell ⟨m,2,ν⟩ c).heap[m]?=σ (ξ #[a,b,c] i (0,0)):=
 aQ _ _ 2 _ _ _ (aQ _ _ 1 _ _ _ (aQ _ _ 0 _ _ _ d))
theorem Ie{o:uS}{w:ω}{p:Nat}{X M:Nat->Prop}{st:qV}(m:One o w p X M st)(r:rK w){user text:ByteArray}(T:user.size<=maxLen) :
 Calls prog 11 #[π (σ ⟨p,0,ν⟩),θ user,θ text] w λv w'=>v=τ (zi (oE o.bud st user text).1)/\(∀q,fg text=.inr q->q.1≠0)/\∃X' M',zh o w w' p X M X' M' (oE o.bud st user text).2:=by
 have⟨A,e⟩:=nm (w.alloc (ξ #[θ ⟨#[]⟩,ι κ 0,ι κ 0] 30));have g:=pq e;have x:A.heap.size=w.heap.size+1:=by rw[e];simp
 have D:A.heap[w.heap.size]?=σ (ξ #[θ ⟨#[]⟩,ι κ 0,ι κ 0] 30 (0,0)):=by rw[e];exact ak w _
 have I:=au (afd (m.wide g) (r.on (g.mono r.size)) (text:=text) T);have f:=au m;have U:=au g;have N:=au e;have L:=au D;have k:=au x;clear m r g e D x;go_in;go_wp2_with fail;rw[<- N.J];refine I.J.mono ?_;rintro v V ⟨rfl,G,B,M2,d⟩;have F:B w.heap.size:=d.more _ (.inr ⟨ae _,by rw[k.J];omega⟩);have E:¬M2 w.heap.size:=λt=>by
  rcases d.Kl _ t with l|l
  . have:=f.J.sV _ (f.J.sub _ l);omega
  . rw[k.J]at l;omega
 have C:¬M w.heap.size:=λt=>by have:=f.J.sV _ (f.J.sub _ t);omega
 have a:=(d.keep.block w.heap.size ⟨by rw[k.J];omega,C⟩).trans L.J;have⟨Z,f1,f2⟩:=bf a;have z0:=fP a 0;have z1:=fP a 1;have z2:=fP a 2;have Y:=ay a;have K:=au G;have y:=au d;have j:=au F;have i:=au E;have O:=au a;have z:=au (aiN ((oE o.bud st user text).1.2.1:Nat) V);have⟨b,n⟩:=nm ((oE o.bud st user text).1);rw[<- n]at z ⊢;have H:=au n;clear G d F E C a n;unfold doV;go_wp2_with fail;refine z.J.mono ?_;rintro v W ⟨rfl,rfl⟩;go_wp2_with fail;have⟨P,Q,R⟩:=bf (aa0 O.J (θ ⟨b.1.toArray⟩) (ι κ (b.2.1:Nat)) (ι κ (b.2.2:Nat)));refine aD (v:=χ #[θ ⟨b.1.toArray⟩,ι κ (b.2.1:Nat),ι κ (b.2.2:Nat)]) (by simp[results,results11,go_sem,P,Q,R];try rfl) rfl ?_;refine⟨by rw[<- H.J];rfl,K.J,B,M2,zh.of U.J y.J ?_ ((y.J.one.set j.J i.J).set j.J i.J |>.set j.J i.J) (λc u=>u) (λc u=>.inl u)⟩;have s:¬(λc=>c<w.heap.size) w.heap.size:=bM _;exact(((aY.refl (λc=>c<w.heap.size) W).setCell (p:=⟨w.heap.size,0,ν⟩) s _).setCell (p:=⟨w.heap.size,1,ν⟩) s _).setCell (p:=⟨w.heap.size,2,ν⟩) s _
abbrev OpS:=Int×ByteArray×ByteArray
def opL(x:OpS):List υ:=[ι κ x.1,θ x.2.1,θ x.2.2]
noncomputable def yX (st:qV):List OpS->qV
 |[]=>st
 |x::r=>yX (oE 0 st x.2.1 x.2.2).2 r
structure vV where
 seg:Int
 pk:Int
 wd:Int
 prune:Bool
 push:Bool
 bud:Int
def vV.val(f:vV):υ:=χ #[ι κ f.seg,ι κ f.pk,ι κ f.wd,.bool f.prune,.bool f.push,ι κ f.bud]
def vV.opt(f:vV):uS:=AA f.seg f.pk f.wd f.bud f.prune f.push
theorem aiW{d:Type}{a:List d}{c:d}(b:a[m]?=σ c):a.drop m=c::a.drop (m+1):=by have e:=(aj.mp b).1;rw[cE e];congr 1;exact(aj.mp b).2
theorem aa1{st:qV}{a:OpS}{b:List OpS}:yX st (a::b)=yX (oE m st a.2.1 a.2.2).2 b:=by show yX (oE 0 st a.2.1 a.2.2).2 b=_;rw[Wb (b:=0) (b':=m)]
theorem One.drewN{o:uS}{w:ω}{p:Nat}{X M:Nat->Prop}{st:qV}(b:One o w p X M st)(d:Nat):One o (w.drewN d) p X M st:=
 b.stays (ae _) (λ_ _ _=>rfl) (λ_ _=>rfl) (λ_ a=>a) (λ_ a=>.inl a) (λc a=>b.sV c a)
theorem rK.drewN{w:ω}(b:rK w)(a:Nat):rK (w.drewN a):=b.on (below_drewN (ah _ _) a)
theorem Kq{w:ω}{f:vV}{b:List OpS}(hg:rK w)(N:bz w 3 v b.length (b.flatMap opL))(hl:b.length<=9000000000000000000)(hu:∀d∈b,d.2.1.size<=maxLen){X0:Nat->Prop}(hX:∀a,X0 a->a<w.heap.size) :
 Calls prog 9 #[f.val,v] w λH w'=>∃p X M,H=τ (π (σ ⟨p,0,ν⟩))/\One f.opt w' p X M (yX ⟨[],[]⟩ b)/\(∀a,X0 a->X a)/\(∀a,X a->X0 a\/w.heap.size<=a)/\(∀a,M a->w.heap.size<=a)/\δ w.heap.size w w':=by
 obtain⟨va,dG,rfl⟩:=bz.slice N;obtain⟨l,j,m,k,push,g⟩:=f;unfold vV.val;simp only;have⟨ac,L⟩:=nm (w.alloc (ξ #[ι κ l,ι κ j,ι κ m,.bool k,.bool push,ι κ g] 23));have jw:=pq L;have HO:=au (Gl l j m g k push ac);have I:=au hg;have HS:=au N;have HU:=au hu;have ab:=au hX;have Q:=au jw;have HW:=au L;go_in;go_wp2_with fail;rw[<- HW.J];refine HO.J.mono ?_;rintro H w1 ⟨rfl,cG⟩;have R:=Q.J.trans (cG.mono Q.J.size);have HN:=au (Yc l j m g k push w1 (X0:=X0) (λa e=>ai (ab.J a e) R.size));have B:=au R;go_wp2_with fail;refine HN.J.mono ?_;rintro H V ⟨p,y,M2,rfl,x,s,t,r,cV⟩;have sI:=B.J.trans (cV.mono B.J.size);have aa:Hid (One (AA l j m g k push) V p y M2 ⟨[],[]⟩/\(∀a,X0 a->y a)/\(∀a,y a->X0 a\/w.heap.size<=a)/\(∀a,M2 a->w.heap.size<=a)/\δ w.heap.size w V):=au ⟨x,s,λa e=>(t a e).imp id (λu=>ag B.J.size u),λa e=>ag B.J.size (r a e),sI⟩;go_wp2;go_loopw[6] (λF wr=>∃(c:Nat) (X M:Nat->Prop) (st:qV),c<=b.length/\F=ι κ c/\Hid (yX ⟨[],[]⟩ b=yX st (b.drop c))/\Hid (One (AA l j m g k push) wr p X M st/\(∀a,X0 a->X a)/\(∀a,X a->X0 a\/w.heap.size<=a)/\(∀a,M a->w.heap.size<=a)/\δ w.heap.size w wr)) (λF _=>b.length - (intOf F).toNat);case atStart=>exact⟨0,y,M2,⟨[],[]⟩,aI _,rfl,au rfl,aa⟩
 case round=>
  obtain⟨c,X,M,st,hi,rfl,K,C⟩:=hrel;have⟨x,s,t,r,n⟩:=C.J;have G:=n.size;by_cases cQ:c<b.length
  .have jY:(c:Int)<b.length:=(by omega);obtain⟨d,A⟩:∃d,b[c]?=σ d:=⟨_,af cQ⟩;obtain⟨T,U,Eb,he,-,ad,O⟩:=bz.at (bz.below HS.J n (ae _)) (by omega);cases he;have x1:wr.cell? ⟨T,U+c*3+1,ν⟩=σ (θ d.2.1):=O (c*3+1) _ (ek opL 3 (λ_=>rfl) b A (j:=1) (by decide));have x2:wr.cell? ⟨T,U+c*3+2,ν⟩=σ (θ d.2.2):=O (c*3+2) _ (ek opL 3 (λ_=>rfl) b A (j:=2) (by decide));have D:Hid (yX ⟨[],[]⟩ b=yX (oE (AA l j m g k push).bud st d.2.1 d.2.2).2 (b.drop (c+1))):=au (by rw[K.J,aiW A];exact aa1);have Y:=au (λP=>afd (x.drewN P) ((I.J.on (n.mono I.J.size)).drewN P) (text:=d.2.2) (HU.J d (aA A)));go_wp2_with fail;go_region_with(go_at_call 20;refine(Y.J _).mono ?_;rintro u W ⟨rfl,hq,z,E,i⟩;have Z:=au i;clear hq i);all_goals
    (try go_wp2_with fail)
    have HR:Hid (One (AA l j m g k push) W p z E (oE (AA l j m g k push).bud st d.2.1 d.2.2).2/\(∀a,X0 a->z a)/\(∀a,z a->X0 a\/w.heap.size<=a)/\(∀a,E a->w.heap.size<=a)/\δ w.heap.size w W):=au (by
     have⟨x,s,t,r,n⟩:=C.J;have i:=Z.J;refine⟨i.one,λa e=>i.more a (s a e),λa e=>?_,i.aiM r G,(below_drewN n _).trans (i.below r G)⟩;rcases i.grows a e with u|u
     . exact t a u
     . exact .inr (ag G u))
    exact⟨⟨c+1,z,E,_,by omega,by go_num,D,HR⟩,by simp[intOf];omega⟩
  obtain rfl:c=b.length:=(by omega);have D:Hid (yX ⟨[],[]⟩ b=st):=au (by rw[K.J,gB];rfl);go_wp2;go_ret;have⟨x,s,t,r,n⟩:=C.J;exact⟨p,X,M,rfl,by rw[D.J];exact x,s,t,r,n⟩
theorem Nc{w:ω}(aa:vV)(hg:rK w):Calls prog 8 #[aa.val] w λd w'=>d=τ (.bool true)/\δ w.heap.size w w':=by
 obtain⟨k,i,l,j,push,a5⟩:=aa;unfold vV.val;simp only;have⟨am,hW⟩:=nm (w.alloc (ξ #[ι κ k,ι κ i,ι κ l,.bool j,.bool push,ι κ 1000] 23));have jw:=pq hW;have HO:=au (Gl k i l 1000 j push am);have f:=au hg;have po:=au jw;have HW:=au hW;go_in;go_wp2_with fail;rw[<- HW.J];refine HO.J.mono ?_;rintro d w1 ⟨rfl,cG⟩;have sP:=po.J.trans (cG.mono po.J.size);have HN:=au (Yc k i l 1000 j push w1 (X0:=λ_=>False) (λm I=>I.elim));have K:=au sP;go_wp2_with fail;refine HN.J.mono ?_;rintro d w2 ⟨p,X2,M2,rfl,tr,-,-,c,cV⟩;have sI:=K.J.trans (cV.mono K.J.size);have ar:∀m,M2 m->w.heap.size<=m:=λm I=>ag K.J.size (c m I);have tR:=f.J.on (sI.mono f.J.size);have z:=au (Ie tr tR (user:=lX) (text:=aT) (by decide));rw[show(AA k i l 1000 j push).bud=1000 from rfl,show(⟨[],[]⟩:qV)=st0 from rfl,ayD]at z;have V:=au ar;have v:=au sI;unfold lX aT at z;go_wp2_with fail;refine z.J.mono ?_;rintro d b ⟨rfl,-,X3,M3,g⟩;have⟨D,s⟩:=nm (b.alloc (ξ #[θ ⟨#[]⟩,ι κ 0,ι κ 0] 30));have iw:=pq s;have Xv:D.heap.size=b.heap.size+1:=by rw[s];simp
 have AX:D.heap[b.heap.size]?=σ (ξ #[θ ⟨#[]⟩,ι κ 0,ι κ 0] 30 (0,0)):=by rw[s];exact ak b _
 have av:=g.aiM V.J v.J.size;have ql:δ w.heap.size w D:=(v.J.trans (g.below V.J v.J.size)).trans (iw.mono (ag v.J.size g.keep.size));have aC:¬M3 b.heap.size:=λc=>by have:=g.one.sV _ (g.one.sub _ c);omega
 have Za:=f.J.on (ql.mono f.J.size);have A:=au (Ie (g.one.wide iw) Za (user:=lX) (text:=bT) (by decide));rw[show(AA k i l 1000 j push).bud=1000 from rfl,ayE]at A;unfold lX bT at A;have R:=au av;have x:=au ql;have FT:=au AX;have O:=au aC;have r:=au Xv;have DL:=au s;unfold zi;go_wp2_with fail;rw[<- DL.J];refine A.J.mono ?_;rintro d e ⟨rfl,-,X4,T,a⟩;have⟨t,u⟩:=nm (e.alloc (ξ #[θ ⟨#[]⟩,ι κ 0,ι κ 0] 30));have L:=pq u;have ab:t.heap.size=e.heap.size+1:=by rw[u];simp
 have G:=a.keep.size;have yv:t.heap[e.heap.size]?=σ (ξ #[θ ⟨#[]⟩,ι κ 0,ι κ 0] 30 (0,0)):=by rw[u];exact ak e _
 have an:t.heap[b.heap.size]?=σ (ξ #[θ ⟨#[]⟩,ι κ 0,ι κ 0] 30 (0,0)):=(L.block _ (by rw[r.J]at G;omega)).trans ((a.keep.block _ ⟨by rw[r.J];omega,O.J⟩).trans FT.J);have ax:=a.aiM R.J x.J.size;have U:δ w.heap.size w t:=(x.J.trans (a.below R.J x.J.size)).trans (L.mono (ag x.J.size a.keep.size));have a3:¬T e.heap.size:=λc=>by have:=a.one.sV _ (a.one.sub _ c);omega
 have ao:¬T b.heap.size:=λc=>by
  rcases a.Kl _ c with H|H
  . exact O.J H
  . rw[r.J]at H;omega
 have aq:=f.J.on (U.mono f.J.size);have B:=au (Ie (a.one.wide L) aq (user:=lX) (text:=cT) (by decide));rw[show(AA k i l 1000 j push).bud=1000 from rfl,ayF]at B;unfold lX cT at B;have ac:=au ax;have y:=au U;have W:=au (And.intro yv an);have P:=au (And.intro a3 ao);have al:=au ab;have ap:=au (show b.heap.size<e.heap.size from by rw[r.J]at G;omega);have ad:=au u;unfold zi;go_wp2_with fail;rw[<- ad.J];refine B.J.mono ?_;rintro d N ⟨rfl,-,X5,M5,n⟩;have a4:=n.keep.size;have ab:=al.J;have G:=ap.J;have⟨E,F⟩:=nm (N.alloc (ξ #[θ ⟨AH.toArray⟩,ι κ 0,ι κ 0] 30));have zn:=pq F;have RF:E.heap[N.heap.size]?=σ (ξ #[θ ⟨AH.toArray⟩,ι κ 0,ι κ 0] 30 (0,0)):=by rw[F];exact ak N _
 have Y:=(n.keep.block e.heap.size ⟨by omega,P.J.1⟩).trans W.J.1;have Z:=(n.keep.block b.heap.size ⟨by omega,P.J.2⟩).trans W.J.2;have LI:δ w.heap.size w E:=(y.J.trans (n.below ac.J y.J.size)).trans (zn.mono (ag y.J.size n.keep.size));have C:=au (Sv (AH,0,0) (AH,0,0) E);rw[bU rfl]at C;have⟨a0,a1,a2⟩:=bf Z;have⟨b0,b1,b2⟩:=bf Y;have a8:=ay Z;have a9:=ay Y;have zo:=au LI;have Q:=au F;unfold zi AH at C;unfold AH at Q;unfold zi AH;go_wp2_with fail;rw[<- Q.J];refine C.J.mono ?_;rintro d w6 ⟨rfl,WZ⟩;have Ho:=au (zo.J.trans (WZ.mono zo.J.size));go_wp2;go_ret;exact⟨rfl,Ho.J⟩
theorem One.told{o:uS}{w:ω}{p:Nat}{X M:Nat->Prop}{st:qV}(a:One o w p X M st):Gn st:=by obtain⟨mt,c,d,b,a,rfl,-⟩:=a;exact a.fits
theorem Kr{a b c:υ}(d:n.heap[m]?=σ (ξ #[v,s,u,a,b,c] i (0,0))) :
 n.cell? ⟨m,0,ν⟩=σ v/\n.cell? ⟨m,1,ν⟩=σ s/\n.cell? ⟨m,2,ν⟩=σ u/\n.cell? ⟨m,3,ν⟩=σ a/\n.cell? ⟨m,4,ν⟩=σ b/\n.cell? ⟨m,5,ν⟩=σ c:=by simp[World.cell?,d]
theorem Bl{o:uS}{w:ω}{p:Nat}{X M M2:Nat->Prop}{st:qV}(i:∀a,M a->m<=a)(j:m<=w.heap.size)(c:zh o w n p X M l M2 st)(d:Obj):δ m w (n.alloc d)/\(∀a,M2 a->m<=a)/\¬M2 n.heap.size/\n.heap.size<(n.alloc d).heap.size/\One o (n.alloc d) p (λa=>l a\/(n.heap.size<=a/\a<(n.alloc d).heap.size)) M2 st/\(∀b,b<w.heap.size->¬M b->(n.alloc d).heap[b]?=w.heap[b]?/\¬M2 b):=by have e:δ n.heap.size n (n.alloc d):=(ah _ _).alloc (ae _) _;have s:=c.keep.size;refine⟨(c.below i j).trans (e.mono (by omega)),c.aiM i j,λf=>?_,by simp,c.one.wide e,λb r k=>⟨(e.block b (by omega)).trans (c.keep.block b ⟨r,k⟩),λf=>?_⟩⟩;{have:=c.one.sV _ (c.one.sub _ f);omega};rcases c.Kl b f with g|g;{exact k g};omega
theorem Er{o:uS}{w:ω}{p:Nat}{X M:Nat->Prop}{st:qV}(d:One o w p X M st)(f:rK w){t:ByteArray}(i:x.size<=maxLen)(c:r=t)(g:(oE o.bud st x t).2=st) :
 Calls prog 11 #[π (σ ⟨p,0,ν⟩),θ x,θ r] w λb w'=>b=τ (zi (oE o.bud st x t).1)/\∃X' M',zh o w w' p X M X' M' st:=by subst c;refine(Ie d f i).mono ?_;rintro b w' ⟨e,-,X',M',a⟩;rw[g]at a;exact⟨e,X',M',a⟩
end
