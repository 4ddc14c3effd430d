import Derived.Test.YtcoaphfimellcaaGreatDoorQBR
set_option maxHeartbeats 0
set_option maxRecDepth 100000
namespace Go.Proofs.YtcoaphfimellcaaGreatDoor
open Go.RowKit
open _root_.Go.Proofs.Tryz
open Option renaming some→σ,none→ν
open Go.IntKind renaming i64→κ
open Go.Ending renaming returned→τ
open Go.Obj renaming cells→ξ
open Go renaming World→ω,Value→υ
open Go.RowKit renaming Below→δ
open Go.Value renaming int→ι,string→θ,pointer→π,agg→χ
variable{m n:Nat->Prop}{x:υ}{v:ω}{l:Nat}
section
open Go.Maps
structure oO (oa ob:sE)(w:ω)(p p2:Nat)(X Ma Mb:Nat->Prop)(sa sb:pG)(lo:Nat):Prop where
 one:One oa w p X Ma sa
 two:One ob w p2 X Mb sb
 dis:∀b,Ma b->¬Mb b
 la:∀b,Ma b->lo<=b
 lb:∀b,Mb b->lo<=b
section
variable {oa ob:sE} {w w':ω} {p p2:Nat} {X X' Ma Mb M':Nat->Prop} {sa sb s':pG} {lo:Nat}
theorem oO.wide(a:oO oa ob w p p2 X Ma Mb sa sb lo)(c:δ w.heap.size w w'):oO oa ob w' p p2 (λb=>X b\/(w.heap.size<=b/\b<w'.heap.size)) Ma Mb sa sb lo:=⟨a.one.wide c,a.two.wide c,a.dis,a.la,a.lb⟩
theorem oO.swap(a:oO oa ob w p p2 X Ma Mb sa sb lo):oO ob oa w p2 p X Mb Ma sb sa lo:=⟨a.two,a.one,λb c d=>a.dis b d c,a.lb,a.la⟩
theorem oO.ask(a:oO oa ob w p p2 X Ma Mb sa sb lo)(c:lo<=w.heap.size)(b:vu oa w w' p X Ma X' M' s'):oO oa ob w' p p2 X' M' Mb s' sb lo:=⟨b.one,a.two.beside b a.one.sub a.dis,b.apart a.two a.dis,b.acU a.la c,a.lb⟩
theorem oO.set(a:oO oa ob w p p2 X Ma Mb sa sb lo){e:Nat}(b:X l)(c:¬Ma l)(d:¬Mb l):oO oa ob (w.setCell ⟨l,e,ν⟩ x) p p2 X Ma Mb sa sb lo:=⟨a.one.set b c,a.two.set b d,a.dis,a.la,a.lb⟩
theorem oO.drew(a:oO oa ob w p p2 X Ma Mb sa sb lo):oO oa ob w.drew p p2 X Ma Mb sa sb lo:=⟨a.one.drewN 1,a.two.drewN 1,a.dis,a.la,a.lb⟩
theorem oO.not(a:oO oa ob w p p2 X Ma Mb sa sb lo)(c:w.heap.size<=l):¬Ma l/\¬Mb l:=⟨λb=>by have:=a.one.oS _ (a.one.sub _ b);omega,λb=>by have:=a.two.oS _ (a.two.sub _ b);omega⟩
end
theorem oO.behind{oa ob:sE}{w:ω}{p p2:Nat}{X Ma Mb:Nat->Prop}{sa sb j:pG}{lo:Nat}(e:oO oa ob w p p2 X Ma Mb sa sb lo)(g:lo<=w.heap.size)(c:vu oa w.drew v p X Ma m n j)(b:List UInt8×Nat×Nat) :
 (v.alloc (ξ (Kg b).toArray 30)).heap[v.heap.size]?=σ (ξ (Kg b).toArray 30 (0,0))/\(∃X' M',oO oa ob (v.alloc (ξ (Kg b).toArray 30)) p p2 X' M' Mb j sb lo/\¬M' v.heap.size/\¬Mb v.heap.size)/\δ lo w (v.alloc (ξ (Kg b).toArray 30))/\∀a,a<w.heap.size->¬Ma a->(v.alloc (ξ (Kg b).toArray 30)).heap[a]?=w.heap[a]?:=by have d:δ v.heap.size v (v.alloc (ξ (Kg b).toArray 30)):=(ah _ _).alloc (ae _) _;have f:=e.drew.ask g c;have o:w.heap.size<=v.heap.size:=c.keep.size;have i:=f.not (ae _);exact⟨au _ _,⟨_,_,f.wide d,i.1,i.2⟩,(aH (ah lo w)).trans ((c.below e.la g).trans (d.mono (by omega))),λa k l=>(d.block a (by omega)).trans (c.keep.block a ⟨k,l⟩)⟩
theorem oO.ahead{oa ob:sE}{w:ω}{p p2:Nat}{X Ma Mb:Nat->Prop}{sa sb u:pG}{lo:Nat}(o:oO oa ob w p p2 X Ma Mb sa sb lo)(g:lo<=w.heap.size)
 (b:vu oa (w.alloc (ξ #[θ ⟨#[]⟩,ι κ 0,ι κ 0] 30)).drew v p (λl=>X l\/(w.heap.size<=l/\l<(w.alloc (ξ #[θ ⟨#[]⟩,ι κ 0,ι κ 0] 30)).heap.size)) Ma m n u) :
 v.heap[w.heap.size]?=σ (ξ #[θ ⟨#[]⟩,ι κ 0,ι κ 0] 30 (0,0))/\∀i j k:υ,(∃X' M',oO oa ob (((v.setCell ⟨w.heap.size,0,ν⟩ i).setCell ⟨w.heap.size,1,ν⟩ j).setCell ⟨w.heap.size,2,ν⟩ k) p p2 X' M' Mb u sb lo/\¬M' w.heap.size/\¬Mb w.heap.size)/\δ lo w (((v.setCell ⟨w.heap.size,0,ν⟩ i).setCell ⟨w.heap.size,1,ν⟩ j).setCell ⟨w.heap.size,2,ν⟩ k)/\∀a,a<w.heap.size->¬Ma a->(((v.setCell ⟨w.heap.size,0,ν⟩ i).setCell ⟨w.heap.size,1,ν⟩ j).setCell ⟨w.heap.size,2,ν⟩ k).heap[a]?=w.heap[a]?:=by
 have r:δ w.heap.size w (w.alloc (ξ #[θ ⟨#[]⟩,ι κ 0,ι κ 0] 30)):=(ah _ _).alloc (ae _) _;have t:(w.alloc (ξ #[θ ⟨#[]⟩,ι κ 0,ι κ 0] 30)).heap.size=w.heap.size+1:=by simp
 have e:(w.alloc (ξ #[θ ⟨#[]⟩,ι κ 0,ι κ 0] 30)).drew.heap.size=w.heap.size+1:=t;have c:=o.not (ae _);have A:=(o.wide r).drew;have x:=A.ask (by rw[e];omega) b;have f:¬n w.heap.size:=λd=>by
  rcases b.FY _ d with d|d
  . exact c.1 d
  . rw[e]at d;omega
 have s:m w.heap.size:=b.more _ (.inr ⟨ae _,by rw[t];omega⟩);refine⟨(b.keep.block _ ⟨by rw[e];omega,c.1⟩).trans (au w _),λi j k=>⟨⟨m,n,((x.set s f c.2).set s f c.2).set s f c.2,f,c.2⟩,?_,λa y z=>?_⟩⟩;{exact((((aH (r.mono g)).trans (b.below o.la (by rw[e];omega))).setCell g _).setCell g _).setCell g _};exact(ay _ _ _ _ (show a≠w.heap.size by omega)).trans ((ay _ _ _ _ (show a≠w.heap.size by omega)).trans ((ay _ _ _ _ (show a≠w.heap.size by omega)).trans ((b.keep.block a ⟨by rw[e];omega,z⟩).trans (r.block a y))))
theorem Uh{w:ω}{a b:o8}{ops:List OpS}(hg:rU w)(hs:bu w 3 x ops.length (ops.flatMap opL))(hl:ops.length<=9000000000000000000)(hu:∀c∈ops,c.2.1.size<=maxLen) :
 Calls prog 7 #[a.val,b.val,x] w λl w'=>l=τ (.bool true)/\δ w.heap.size w w':=by
 obtain⟨va,dq,rfl⟩:=bu.slice hs;obtain⟨m,j,n,k,push,g⟩:=a;obtain⟨u,v,z,y,B,YM⟩:=b;have YG:o8.val ⟨m,j,n,k,push,g⟩=χ #[ι κ m,ι κ j,ι κ n,.bool k,.bool push,ι κ g]:=rfl;obtain⟨cd,hf⟩:=nm (⟨m,j,n,k,push,g⟩:o8);rw[<- hf]at YG ⊢;obtain⟨bc,hW⟩:=nm ((w.alloc (ξ #[ι κ m,ι κ j,ι κ n,.bool k,.bool push,ι κ g] 23)).alloc (ξ #[ι κ u,ι κ v,ι κ z,.bool y,.bool B,ι κ YM] 23));have ia:=vC hW;have Zl:bc.heap[w.heap.size]?=σ (ξ #[ι κ m,ι κ j,ι κ n,.bool k,.bool push,ι κ g] 23 (0,0))/\bc.heap[w.heap.size+1]?=σ (ξ #[ι κ u,ι κ v,ι κ z,.bool y,.bool B,ι κ YM] 23 (0,0)):=(by rw[hW];have e2:=au (w.alloc (ξ #[ι κ m,ι κ j,ι κ n,.bool k,.bool push,ι κ g] 23)) (ξ #[ι κ u,ι κ v,ι κ z,.bool y,.bool B,ι κ YM] 23);rw[show(w.alloc (ξ #[ι κ m,ι κ j,ι κ n,.bool k,.bool push,ι κ g] 23)).heap.size=w.heap.size+1 by simp]at e2;exact⟨(dZ _ _ (by simp)).trans (au w _),e2⟩);have Fj:=ak (ED cd (hg.on (ia.mono hg.size)));have G:=ak hg;have HS:=ak hs;have HU:=ak hu;have qg:=ak ia;have HW:=ak hW;have a6:=ak Zl;have cf:=aw Zl.1;have ca:=aw Zl.2;rw[YG]at Fj ⊢;clear hg hs hu ia hW Zl hf YG;unfold o8.val;simp only;go_in;go_wp2_with fail;rw[<- HW.J];refine Fj.J.mono ?_;rintro l w1 ⟨rfl,cx⟩;have pC:=qg.J.trans (cx.mono qg.J.size);have av:=(cx.block _ cf).trans a6.J.1;have V:=(cx.block _ ca).trans a6.J.2;obtain⟨W1,oH⟩:=nm (w1.setCell ⟨w.heap.size+1,5,ν⟩ (ι κ g));have bm:δ w.heap.size w W1:=by rw[oH];exact pC.setCell (bE _) _
 have bd:W1.heap[w.heap.size+1]?=σ (ξ #[ι κ u,ι κ v,ι κ z,.bool y,.bool B,ι κ g] 23 (0,0)):=by rw[oH];exact aN _ _ 5 _ _ _ V
 obtain⟨j0,j1,j2,j3,j4,j5⟩:=pI av;obtain⟨k0,k1,k2,k3,k4,k5⟩:=pI V;have z5:=eR V 5;have cS:=aw av;have c0:=aw V;have HO:=ak (uO m j n g k push W1);have gq:=ak bm;have a5:=ak bd;have B6:=ak oH;clear cx pC av V oH bm bd;go_wp2_with fail;rw[<- B6.J];refine HO.J.mono ?_;rintro l w2 ⟨rfl,cG⟩;have oW:=gq.J.trans (cG.mono gq.J.size);have be:=(cG.block _ (aw a5.J)).trans a5.J;have HN:=ak (Gq m j n g k push w2 (X0:=λ_=>False) (λb E=>E.elim));have jl:=ak oW;have bg:=ak be;clear cG oW be j0 j1 j2 j3 j4 j5 k0 k1 k2 k3 k4 k5 z5;go_wp2_with fail;refine HN.J.mono ?_;rintro l w3 ⟨p,X3,M3,rfl,qS,-,-,hm,fI⟩;have nB:=jl.J.trans (fI.mono jl.J.size);have ap:=(fI.block _ (aw bg.J)).trans bg.J;obtain⟨k0,k1,k2,k3,k4,k5⟩:=pI ap;have cr:=aw ap;have xQ:=ak (uO u v z g y B w3);have uk:=ak qS;have Jk:=ak (λb E=>(show w.heap.size<=b from ag jl.J.size (hm b E)));have nF:=ak nB;clear qS hm fI nB ap;go_wp2_with fail;refine xQ.J.mono ?_;rintro l w4 ⟨rfl,mK⟩;have AE:=nF.J.trans (mK.mono nF.J.size);have aC:=uk.J.wide mK;have Z9:=ak (Gq u v z g y B w4 (X0:=λb=>X3 b\/(w3.heap.size<=b/\b<w4.heap.size)) aC.oS);have zO:=ak AE;have Q:=ak aC;clear mK AE aC k0 k1 k2 k3 k4 k5;go_wp2_with fail;refine Z9.J.mono ?_;rintro l w5 ⟨p2,X5,M5,rfl,Fs,DU,EJ,ax,x8⟩;have AG:=zO.J.trans (x8.mono zO.J.size);have bw:=Q.J.stays x8.size (λb h1 _=>x8.block b h1) (λb E=>x8.block b (Q.J.oS b (Q.J.sub b E))) DU EJ Fs.oS;have a8:Hid (oO (tW m j n g k push) (tW u v z g y B) w5 p p2 X5 M3 M5 ⟨[],[]⟩ ⟨[],[]⟩ w.heap.size/\δ w.heap.size w w5):=ak ⟨⟨bw,Fs,λb h1 h2=>by
  have:=Q.J.oS b (Q.J.sub b h1);have:=ax b h2;omega,Jk.J,λb E=>ag zO.J.size (ax b E)⟩,AG⟩
 clear Fs DU EJ ax x8 AG bw;go_wp2_with fail;obtain⟨oa,OE⟩:=nm (tW m j n g k push);obtain⟨ob,a3⟩:=nm (tW u v z g y B);have bY:Hid (ob.bud=oa.bud):=ak (by rw[OE,a3];rfl);rw[<- OE,<- a3]at a8;clear OE a3;go_loopw[9] (λaq wr=>∃(d:Nat) (X Ma Mb:Nat->Prop) (st:pG),d<=ops.length/\aq=ι κ d/\Hid (oO oa ob wr p p2 X Ma Mb st st w.heap.size/\δ w.heap.size w wr)) (λaq _=>ops.length - (intOf aq).toNat);case atStart=>exact⟨0,X5,M3,M5,⟨[],[]⟩,aK _,rfl,a8⟩
 case round=>
  obtain⟨d,X,Ma,Mb,st,hi,rfl,HL⟩:=hrel;obtain⟨O,C⟩:=HL.J;have nQ:=C.size;by_cases cL:d<ops.length
  .have ju:(d:Int)<ops.length:=(by omega);obtain⟨c,U⟩:∃c,ops[d]?=σ c:=⟨_,af cL⟩;have Z:=HU.J c (aA U);have ao:=ak U;obtain⟨vg,vo,xW,Y,-,c1,o⟩:=bu.at (bu.below HS.J C (ae _)) (by omega);cases Y;have x1:wr.cell? ⟨vg,vo+d*3+1,ν⟩=σ (θ c.2.1):=o (d*3+1) _ (dy opL 3 (λ_=>rfl) ops U (j:=1) (by decide));have x2:wr.cell? ⟨vg,vo+d*3+2,ν⟩=σ (θ c.2.2):=o (d*3+2) _ (dy opL 3 (λ_=>rfl) ops U (j:=2) (by decide));have t:=G.J.on (C.mono G.J.size);have F:δ wr.heap.size wr (wr.alloc (ξ #[θ ⟨#[]⟩,ι κ 0,ι κ 0] 30)):=(ah _ _).alloc (ae _) _;obtain⟨r,hU⟩:=nm ((sF oa.bud st c.2.1 c.2.2).1);obtain⟨i,Au⟩:=nm ((sF oa.bud st c.2.1 c.2.2).2);have al:=ak (pj (O.drew.one) (t.drewN 1) (user:=c.2.1) (text:=c.2.2) Z);have am:=ak (pj ((O.wide F).drew.one) ((t.on (F.mono t.size)).drewN 1) (user:=c.2.1) (text:=c.2.2) Z);rw[<- hU,<- Au]at al am;have b6:Hid (Gs c.2.2=true->TT r):=ak (λs=>by rw[hU];exact xH O.one.told s Z);have bb:=ak (show(sF ob.bud st c.2.1 c.2.2).1=r/\(sF ob.bud st c.2.1 c.2.2).2=i from by rw[bY.J,hU,Au];exact⟨rfl,rfl⟩);have ab:=ak (And.intro O nQ);have b3:=ak C;clear O C o U t F hU Au;go_wp2_with fail;unfold um at al am;go_cut[10] (λck A=>∃N,ck=π (σ ⟨N,0,ν⟩)/\Hid (A.heap[N]?=σ (ξ (Kg r).toArray 30 (0,0))/\(∃X' M',oO oa ob A p p2 X' M' Mb i st w.heap.size/\¬M' N/\¬Mb N)/\δ w.heap.size wr A));case first=>
    go_region_law(refine ie rfl 11 _ _ rfl call11 #[π (σ ⟨p,0,ν⟩),θ c.2.1,θ c.2.2] (by first|(simp[Act.eval];done)|(simp[Act.eval,Act.put];done)|rfl) _ (by first|exact al.J|exact am.J) ?_;rintro l w2 ⟨rfl,-,X2,M2,D⟩;refine⟨_,rfl,?_⟩;(first|(have f:=oO.behind ab.J.1 ab.J.2 D r;have e:=ak f;clear f)|(have f:=oO.ahead ab.J.1 ab.J.2 D;obtain⟨a0,a1,a2⟩:=aY f.1;have ga:=λd=>eR f.1 d;have cg:=aw f.1;have e:=ak f;clear f));clear D);(all_goals(try go_wp2_with fail));(all_goals go_meet);all_goals
     first
     |exact⟨_,rfl,ak ⟨e.J.1,e.J.2.1,e.J.2.2.1⟩⟩
     |exact⟨_,rfl,ak ⟨EC e.J.1 _ _ _,(e.J.2 _ _ _).1,(e.J.2 _ _ _).2.1⟩⟩
   case rest=>
    obtain⟨N,rfl,H9⟩:=hcut;obtain⟨L,Vi⟩:=nm wc;subst Vi;obtain⟨Nr,⟨X6,M6,ad,ci,bv⟩,Ng⟩:=H9.J;have T:=b3.J.trans Ng;have cb:=T.size;obtain⟨cm,cn,xW,Y,-,cs,o⟩:=bu.at (bu.below HS.J T (ae _)) (by omega);cases Y;have y1:L.cell? ⟨vg,vo+d*3+1,ν⟩=σ (θ c.2.1):=o (d*3+1) _ (dy opL 3 (λ_=>rfl) ops ao.J (j:=1) (by decide));have y2:L.cell? ⟨vg,vo+d*3+2,ν⟩=σ (θ c.2.2):=o (d*3+2) _ (dy opL 3 (λ_=>rfl) ops ao.J (j:=2) (by decide));have t:=G.J.on (T.mono G.J.size);have F:δ L.heap.size L (L.alloc (ξ #[θ ⟨#[]⟩,ι κ 0,ι κ 0] 30)):=(ah _ _).alloc (ae _) _;have V5:=ak (pj (ad.swap.drew.one) (t.drewN 1) (user:=c.2.1) (text:=c.2.2) Z);have uA:=ak (pj ((ad.swap.wide F).drew.one) ((t.on (F.mono t.size)).drewN 1) (user:=c.2.1) (text:=c.2.2) Z);rw[bb.J.1,bb.J.2]at V5 uA;have ac:=ak (And.intro ad.swap cb);have FD:=ak T;have aa:=ak (And.intro Nr bv);have bt:=aw Nr;clear Nr ad ci bv Ng T o t F x1 x2;go_wp2_with fail;unfold um at V5 uA;go_cut[11] (λcl A=>∃Ah,cl=π (σ ⟨Ah,0,ν⟩)/\Hid (A.heap[Ah]?=σ (ξ (Kg r).toArray 30 (0,0))/\A.heap[N]?=σ (ξ (Kg r).toArray 30 (0,0))/\(∃X' b7 b8,oO oa ob A p p2 X' b7 b8 i i w.heap.size)/\δ w.heap.size L A));case first=>
     go_region_law(refine ie rfl 11 _ _ rfl call11 #[π (σ ⟨p2,0,ν⟩),θ c.2.1,θ c.2.2] (by first|(simp[Act.eval];done)|(simp[Act.eval,Act.put];done)|rfl) _ (by first|exact V5.J|exact uA.J) ?_;rintro l w2 ⟨rfl,-,X2,M2,D⟩;refine⟨_,rfl,?_⟩;(first|(have f:=oO.behind ac.J.1 ac.J.2 D r;have e:=ak f;clear f)|(have f:=oO.ahead ac.J.1 ac.J.2 D;obtain⟨a0,a1,a2⟩:=aY f.1;have ga:=λd=>eR f.1 d;have cg:=aw f.1;have e:=ak f;clear f));clear D);(all_goals(try go_wp2_with fail));(all_goals go_meet);all_goals
      first
      |exact⟨_,rfl,ak ⟨e.J.1,(e.J.2.2.2 _ bt aa.J.2).trans aa.J.1,e.J.2.1.elim (λ_ s=>s.elim (λ_ s=>⟨_,_,_,s.1.swap⟩)),e.J.2.2.1⟩⟩
      |exact⟨_,rfl,ak ⟨EC e.J.1 _ _ _,((e.J.2 _ _ _).2.2 _ bt aa.J.2).trans aa.J.1,(e.J.2 _ _ _).1.elim (λ_ s=>s.elim (λ_ s=>⟨_,_,_,s.1.swap⟩)),(e.J.2 _ _ _).2.1⟩⟩
    case rest=>
     obtain⟨Ah,rfl,bS⟩:=hcut;obtain⟨W7,ce⟩:=nm wc;subst ce;obtain⟨DB,W,⟨X7,H,I,bo⟩,Nh⟩:=bS.J;have Er:=FD.J.trans Nh;unfold Kg at DB W;obtain⟨a0,a1,a2⟩:=aY W;obtain⟨b0,b1,b2⟩:=aY DB;have cc:=aw W;have cN:=aw DB;have an:=ak (Dp r r W7);rw[bK rfl]at an;unfold um at an;have a9:=ak bo;have K:=ak Er;have b5:=ak W;clear DB W bo Nh Er y1 y2;go_wp2_with fail;refine an.J.mono ?_;rintro l w8 ⟨rfl,AJ⟩;have Vs:=K.J.trans (AJ.mono K.J.size);obtain⟨cm,cn,xW,Y,-,cv,o⟩:=bu.at (bu.below HS.J Vs (ae _)) (by omega)
     cases Y
     have y2:w8.cell? ⟨vg,vo+d*3+2,ν⟩=σ (θ c.2.2):=o (d*3+2) _ (dy opL 3 (λ_=>rfl) ops ao.J (j:=2) (by decide));have ar:=G.J.on (Vs.mono G.J.size);have b4:=ak (uQ c.2.2 w8 ar.laid (by have:=ar.size;omega));have P:=(AJ.block _ cc).trans b5.J;have a4:=ak P;have bi:=ak AJ;have co:=ak Vs;clear AJ Vs o ar P a0 a1 a2 b0 b1 b2;go_wp2_with fail;refine b4.J.mono ?_;rintro l w9 ⟨rfl,Yq⟩;have bl:=bi.J.trans (Yq.mono bi.J.size);have P:=(Yq.block _ (aw a4.J)).trans a4.J;obtain⟨a0,a1,a2⟩:=aY P;have cp:=aw P;have M:=ak bl;clear Yq bl P y2
     cases hq:Gs c.2.2 with
     |false=>
       have R:=ak (show oO oa ob w9 p p2 _ H I i i w.heap.size/\δ w.heap.size w w9 from⟨a9.J.wide M.J,K.J.trans (M.J.mono K.J.size)⟩);go_wp2_with fail
       first
       |exact⟨⟨d+1,_,H,I,i,by omega,by go_num,R⟩,by simp[intOf];omega⟩
       | (go_roundw
          case rel=>exact⟨d+1,_,H,I,i,by omega,by go_num,R⟩
          case measure=>simp[intOf];omega)
     |true=>
       have ba:=ak (Dq (b6.J hq) w9);unfold um at ba;go_wp2_with fail;refine ba.J.mono ?_;rintro l bx ⟨rfl,pY⟩;have R:=ak (show oO oa ob bx p p2 _ H I i i w.heap.size/\δ w.heap.size w bx from⟨a9.J.wide (M.J.trans (pY.mono M.J.size)),K.J.trans ((M.J.trans (pY.mono M.J.size)).mono K.J.size)⟩);clear pY;go_wp2_with fail
       first
       |exact⟨⟨d+1,_,H,I,i,by omega,by go_num,R⟩,by simp[intOf];omega⟩
       | (go_roundw
          case rel=>exact⟨d+1,_,H,I,i,by omega,by go_num,R⟩
          case measure=>simp[intOf];omega)
  obtain rfl:d=ops.length:=(by omega);have HB:=ak C;clear O C;go_wp2_with fail;go_ret;exact⟨rfl,HB.J⟩
end
