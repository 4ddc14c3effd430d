import Derived.Test.YtcoaphfimellcaaGreatDoorFBO
import Derived.Test.YtcoaphfimellcaaGreatDoorFBP
set_option maxHeartbeats 0
set_option maxRecDepth 100000
namespace Go.Proofs.YtcoaphfimellcaaGreatDoor
open Go.RowKit
open _root_.Go.Proofs.Tryz
open Go.IntKind renaming i64→κ
open Go.Obj renaming cells→ξ
open Go.Value renaming int→ι,string→θ,slice→ψ
variable{w:ByteArray}
theorem akK(S:ByteArray):yY (Mode.of (dv (pE++(bs [32]++S)) 0)):=by rw[td (X:=pE) (Y:=bs [32]++S) (Dd (by decide)) (by rw[yK (X:=bs [32]) (by decide)];decide) Yk];exact⟨rfl,rfl,rfl,rfl,rfl⟩
theorem KF(S:ByteArray)(d:World)(n:Laid d)(e:0<d.heap.size)(V:S.size<=9000000000000000000):Calls prog 15 #[θ S] d λa R=>∃f,a=.returned (.bool f)/\(f=true->isE S)/\Below d.heap.size d R:=by
 have s:=au (Nb (pE++(bs [32]++S)) d n e);clear n e;go_in;go_wp2_with fail;refine s.J.mono ?_;rintro a X ⟨⟨t,u,v,w,x,N,I,A,O,K,B,P,L,C,y,Q,p,D,M,H,z,g,f,rfl,G,o,m⟩,j⟩;have k:=au (j.alloc j.size (ξ #[θ t,θ u,ι κ v,θ w,ι κ x,ψ N I A,ψ O K B,ψ P L C,ι κ y,ψ Q p D,ψ M H z] 41));have r:=au (show g=0->p=2->isE S fromλe E=>by
  rcases o with⟨U,c,-⟩|c
  . obtain⟨W,a,l,-⟩:=AG (Po (akK S) c)
    have b:=m _ l;rw[E]at b
    cases a with
    |nil=>cases b
    |cons Y a=>
      cases a with
      |nil=>exact⟨_,_,l⟩
      |cons Z a=>simp only[List.length_cons]at b;omega
  . by_cases b:300<(pE++(bs [32]++S)).size
    . unfold fg at c
      rw[aF b]at c
      cases c
      cases e
    . exact absurd e (KE b (akK S) c).1)
 clear j G o m;by_cases F:g=0;{subst F;go_wp2_with fail;go_ret;exact⟨_,rfl,λi=>r.J trivial (by simp at i;omega),k.J⟩};have T:((g:Int)==0)=false:=(by rw[aK];omega);go_wp2_with fail;go_ret;exact⟨_,rfl,λi=>by simp at i,k.J⟩
section
open Go.Maps
theorem Tb{S:ByteArray}(a:isE S):S.size<=300:=by obtain⟨c,d,a⟩:=a;unfold fg at a;split at a;{cases a};rename_i b;simp only[ByteArray.size_append]at b;omega
theorem asu(q one two:ByteArray):q++⟨#[32,124,32,119,104,101,114,101,32,40]⟩++one++⟨#[41,32,124,32,119,104,101,114,101,32,40]⟩++two++⟨#[41]⟩=tA q one two:=by rw[show(⟨#[32,124,32,119,104,101,114,101,32,40]⟩:ByteArray)=c1++bs [40]by kernel_rfl,show(⟨#[41,32,124,32,119,104,101,114,101,32,40]⟩:ByteArray)=c2++bs [40]by kernel_rfl,show(⟨#[41]⟩:ByteArray)=bs [41]from rfl];unfold tA;simp only[ByteArray.append_assoc]
theorem asv(q one two:ByteArray):q++⟨#[32,124,32,119,104,101,114,101,32,40]⟩++one++⟨#[41,32,97,110,100,32,40]⟩++two++⟨#[41]⟩=tB q one two:=by rw[show(⟨#[32,124,32,119,104,101,114,101,32,40]⟩:ByteArray)=c1++bs [40]by kernel_rfl,show(⟨#[41,32,97,110,100,32,40]⟩:ByteArray)=c3++bs [40]by kernel_rfl,show(⟨#[41]⟩:ByteArray)=bs [41]from rfl];unfold tB;simp only[ByteArray.append_assoc]
theorem Ws{e:World}{f:vV}{ops:List OpS}{sv:Value}{query one two:ByteArray}(C:rK e)(hs:bz e 3 sv ops.length (ops.flatMap opL))(hl:ops.length<=9000000000000000000)(hu:∀bt∈ops,bt.2.1.size<=maxLen)(N:w.size<=maxLen)(ar:one.size<=9000000000000000000)(av:two.size<=9000000000000000000) :
 Calls prog 4 #[f.val,sv,θ w,θ query,θ one,θ two] e λi w'=>i=.returned (.bool true)/\Below e.heap.size e w':=by
 obtain⟨va,dG,rfl⟩:=bz.slice hs;obtain⟨s,p,u,r,push,n⟩:=f;have B:vV.val ⟨s,p,u,r,push,n⟩=.agg #[ι κ s,ι κ p,ι κ u,.bool r,.bool push,ι κ n]:=rfl;have⟨f,hf⟩:=nm (⟨s,p,u,r,push,n⟩:vV);rw[<- hf]at B ⊢;have⟨bl,A⟩:=nm (e.alloc (ξ #[ι κ s,ι κ p,ι κ u,.bool r,.bool push,ι κ n] 23));have jw:=pq A;have Y:bl.heap[e.heap.size]?=some (ξ #[ι κ s,ι κ p,ι κ u,.bool r,.bool push,ι κ n] 23 (0,0)):=by rw[A];exact ak e _
 have J5:=au (Nc f (C.on (jw.mono C.size)));have c:=au C;have HS:=au hs;have HU:=au hu;have d:=au jw;have HW:=au A;have bc:=au Y;have bo:=ay Y;rw[B]at J5 ⊢;have bb:=au B;have a5:=au ar;have a8:=au av;clear C hs hu jw A Y hf B ar av;go_in;go_wp2_with fail;rw[<- HW.J];refine J5.J.mono ?_;rintro i w1 ⟨rfl,z⟩;have sP:=d.J.trans (z.mono d.J.size);have G:=c.J.on (sP.mono c.J.size);have HQ:=au (Gm query w1 G.laid (by have:=G.size;omega));have iC:=au z;clear z sP G;go_wp2_with fail;refine HQ.J.mono ?_;rintro i w2 ⟨rfl,cV⟩;have Wt:=iC.J.trans (cV.mono iC.J.size);have D:=au Wt;clear cV Wt;cases hq:Ic query with
 |false=>go_wp2;go_ret;exact⟨rfl,d.J.trans (D.J.mono d.J.size)⟩
 |true=>
  have sI:=d.J.trans (D.J.mono d.J.size);have tR:=c.J.on (sI.mono c.J.size);have HX:=au (KF one w2 tR.laid (by have:=tR.size;omega) a5.J);clear sI tR;go_wp2_with fail;refine HX.J.mono ?_;rintro i w3 ⟨b1,rfl,PS,iw⟩;have aq:=D.J.trans (iw.mono D.J.size);have E:=au aq;have ba:=au PS;clear iw aq PS;cases b1 with
  |false=>go_wp2;go_ret;exact⟨rfl,d.J.trans (E.J.mono d.J.size)⟩
  |true=>
   have ql:=d.J.trans (E.J.mono d.J.size);have R:=c.J.on (ql.mono c.J.size);have HY:=au (KF two w3 R.laid (by have:=R.size;omega) a8.J);clear ql R;go_wp2_with fail;refine HY.J.mono ?_;rintro i w4 ⟨b2,rfl,Q,oB⟩;have y:=E.J.trans (oB.mono E.J.size);have l:=au (d.J.trans (y.mono d.J.size));cases b2 with
   |false=>clear oB y Q;go_wp2;go_ret;exact⟨rfl,l.J⟩
   |true=>
    have an:=au (ba.J trivial);have ao:=au (Q rfl);have yv:=(y.block _ bo).trans bc.J;have⟨j0,j1,j2,j3,j4,j5⟩:=Kr yv;have bm:=ay yv;have a2:=c.J.on (l.J.mono c.J.size);have Ts:=au (Kq (f:=f) a2 (bz.below HS.J l.J (ae _)) hl HU.J (X0:=λ_=>False) (λT g=>g.elim));rw[bb.J]at Ts;clear oB y Q yv a2;go_wp2_with fail;refine Ts.J.mono ?_;rintro i w5 ⟨b9,X5,M5,rfl,t,-,-,hm,zn⟩;have⟨st,jh⟩:=nm (yX ⟨[],[]⟩ ops);rw[<- jh]at t;have zo:=au (l.J.trans (zn.mono l.J.size));have bd:=au (λT g=>(show e.heap.size<=T from ag l.J.size (hm T g)));have Uz:=c.J.on (zo.J.mono c.J.size);have oy:query.size<=300:=(by have⟨_,_,_,_,_,_,_,h⟩:=AG hq;omega)
    have lV:=Tb an.J;have lk:=Tb ao.J;have j:=au (Ta (bud:=f.opt.bud) t.told N hq an.J ao.J);have HA:=au (Er t Uz N (asu query one two) j.J.1.2);have b4:=au t;clear t jh hm zn Uz j0 j1 j2 j3 j4 j5 bm;go_wp2_with fail;refine HA.J.mono ?_;rintro i k ⟨rfl,X6,M6,a0⟩;have⟨a,o⟩:=nm ((oE f.opt.bud st w (tA query one two)).1);rw[<- o]at j ⊢;obtain⟨O,a3,a4,aa,ab,-⟩:=Bl bd.J zo.J.size a0 (ξ #[θ ⟨a.1.toArray⟩,ι κ (a.2.1:Nat),ι κ (a.2.2:Nat)] 30);have M:=ak k (ξ #[θ ⟨a.1.toArray⟩,ι κ (a.2.1:Nat),ι κ (a.2.2:Nat)] 30);have⟨W6,V⟩:=nm (k.alloc (ξ #[θ ⟨a.1.toArray⟩,ι κ (a.2.1:Nat),ι κ (a.2.2:Nat)] 30));rw[<- V]at O aa ab M;have L:=au (zo.J.trans O);have U4:=c.J.on (L.J.mono c.J.size);have a9:=au (Er ab U4 N (asv query one two) j.J.2.1.2);have be:=au a3;have am:=au a4;have al:=au M;have bg:=au V;unfold zi;clear a0 o O a3 a4 ab M V U4;go_wp2_with fail;rw[<- bg.J];refine a9.J.mono ?_;rintro i m ⟨rfl,X7,M7,U⟩;have⟨b,aC⟩:=nm ((oE f.opt.bud st w (tB query one two)).1);rw[<- aC]at j ⊢;obtain⟨I,-,-,-,-,ap⟩:=Bl be.J L.J.size U (ξ #[θ ⟨b.1.toArray⟩,ι κ (b.2.1:Nat),ι κ (b.2.2:Nat)] 30);have x:=ak m (ξ #[θ ⟨b.1.toArray⟩,ι κ (b.2.1:Nat),ι κ (b.2.2:Nat)] 30);have Z:=(U.keep.block k.heap.size ⟨aa,am.J⟩).trans al.J;have⟨x0,F,x2⟩:=bf Z;have b6:=ay Z;have v:=(ap _ aa am.J).1.trans al.J;have⟨P,W⟩:=nm (m.alloc (ξ #[θ ⟨b.1.toArray⟩,ι κ (b.2.1:Nat),ι κ (b.2.2:Nat)] 30));rw[<- W]at I x v;have ac:=au (L.J.trans I);have zc:=au (λwr (g:Below P.heap.size P wr)=>(show(wr.cell? ⟨k.heap.size,0,none⟩=some (θ ⟨a.1.toArray⟩)/\wr.cell? ⟨k.heap.size,1,none⟩=some (ι κ (a.2.1:Nat))/\wr.cell? ⟨k.heap.size,2,none⟩=some (ι κ (a.2.2:Nat)))/\(wr.cell? ⟨m.heap.size,0,none⟩=some (θ ⟨b.1.toArray⟩)/\wr.cell? ⟨m.heap.size,1,none⟩=some (ι κ (b.2.1:Nat))/\wr.cell? ⟨m.heap.size,2,none⟩=some (ι κ (b.2.2:Nat)))/\k.heap.size<wr.heap.size/\m.heap.size<wr.heap.size/\Below e.heap.size e wr from by
     have o:=(g.block _ (ay v)).trans v;have hB:=(g.block _ (ay x)).trans x;exact⟨bf o,bf hB,ay o,ay hB,ac.J.trans (g.mono ac.J.size)⟩))
    have Vu:=au (Eo j.J.1.1 P);have bi:=au W;unfold zi at Vu ⊢;clear U aC I x ap v W Z;go_wp2_with fail;rw[<- bi.J];refine Vu.J.mono ?_;rintro i w8 ⟨rfl,H⟩;obtain⟨⟨bv,bw,bx⟩,⟨y0,y1,y2⟩,l6,l7,-⟩:=zc.J w8 H;have PH:=au (Eo j.J.2.1.1 w8);have ad:=au H;unfold zi at PH;clear H x0 F x2;go_wp2_with fail;refine PH.J.mono ?_;rintro i w9 ⟨rfl,a1⟩;have⟨⟨x0,F,x2⟩,⟨b0,b3,ca⟩,b7,b8,ax⟩:=zc.J w9 (ad.J.trans (a1.mono ad.J.size));have K:=au ax;clear a1 ax bv bw bx y0 y1 y2;by_cases X:a.2.1=0;{by_cases g:b.2.1=0;{have FN:=j.J.2.2 X g;rw[X]at F;rw[g]at b3;rw[<- FN]at b0;go_wp2;go_ret;exact⟨by simp,K.J⟩};have z:(((b.2.1:Nat):Int) != 0)=true:=(by rw[jD];omega);rw[X]at F;go_wp2;go_ret;exact⟨rfl,K.J⟩};have b5:(((a.2.1:Nat):Int) != 0)=true:=(by rw[jD];omega);go_wp2;go_ret;exact⟨rfl,K.J⟩
end
