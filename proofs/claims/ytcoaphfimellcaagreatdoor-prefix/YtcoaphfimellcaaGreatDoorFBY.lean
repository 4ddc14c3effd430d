import Derived.Test.YtcoaphfimellcaaGreatDoorFBO
import Derived.Test.YtcoaphfimellcaaGreatDoorFBX
set_option maxHeartbeats 0
set_option maxRecDepth 100000
namespace Go.Proofs.YtcoaphfimellcaaGreatDoor
open Go.RowKit
open _root_.Go.Proofs.Tryz
open Option renaming some→σ,none→ν
open Go.IntKind renaming i64→κ
open Go.Obj renaming cells→ξ
open Go.Value renaming int→ι,string→θ
variable{w:Nat}
section
open Go.Lib
theorem afI(a:World)(b:Int):(convert 68 9 (.slice (σ ⟨a.heap.size,0,ν⟩) 1 1)).run prog (a.alloc (ξ #[ι .u8 b] 5))=.ok (θ ⟨#[UInt8.ofNat b.toNat]⟩) (a.alloc (ξ #[ι .u8 b] 5)):=by
 rw[pP _ 68 9 5 _ _ _ underlying68 underlying5 underlying9];have e:(loadCells ⟨a.heap.size,0,ν⟩ 1).run prog (a.alloc (ξ #[ι .u8 b] 5))=.ok (([b]).map (Value.int .u8)).toArray (a.alloc (ξ #[ι .u8 b] 5)):=
  vq (P:=prog) _ ⟨a.heap.size,0,ν⟩ [ι .u8 b] (λd f c=>by
   cases d with
   |zero=>cases c;exact dp (ak a _) 0
   |succ d=>simp at c)
 rw[vX _ _ _ _ _ e];rfl
theorem Ww(a:w<10):qY w=⟨#[UInt8.ofNat (48+w)]⟩:=by unfold qY;rw[decDigits,ec a]
theorem abd(a:¬w<10):qY w=qY (w / 10)++⟨#[UInt8.ofNat (48+w % 10)]⟩:=by
 have:decDigits w=decDigits (w / 10)++[UInt8.ofNat (48+w % 10)]:=by rw[decDigits,gy a]
 unfold qY;rw[this];simp[ByteArray.ext_iff]
theorem Yq(a:Nat)(b:World)(r:a<=9223372036854775807):Calls prog 16 #[ι κ a] b λm p=>m=.returned (θ (qY a))/\Below b.heap.size b p:=by
 have j:=afI b (48+(a:Int) % 10);have i:(48+(a:Int) % 10).toNat=48+a % 10:=by omega
 rw[i]at j;have l:=pq (W:=b.alloc (ξ #[ι .u8 (48+(a:Int) % 10)] 5)) rfl;have d:=au l;clear l i;by_cases f:a<10
 . have o:(a:Int) / 10=0:=by omega
   have k:a % 10=a:=by omega
   rw[k]at j;have c:=au (Ww f);clear k;go_in;go_wp2_with fail;go_ret;exact⟨by rw[c.J];simp,d.J⟩
 . have o:¬(a:Int) / 10=0:=by omega
   have e:=au (Yq (a / 10) (b.alloc (ξ #[ι .u8 (48+(a:Int) % 10)] 5)) (by omega));rw[show((a / 10:Nat):Int)=(a:Int) / 10 from rfl]at e;have s:(qY (a / 10)).size<=19:=by
    have:=Ii 18 (a / 10) (by omega);simpa[qY,ByteArray.size]using this
   have c:=au (abd f);go_in;go_wp2_with fail;refine e.J.mono ?_;rintro m t ⟨rfl,g⟩;have n:=au (d.J.trans (g.mono d.J.size));clear g;go_wp2_with fail;go_ret;exact⟨by rw[c.J];simp,n.J⟩
 termination_by a
 decreasing_by omega
end
theorem afJ(S:ByteArray)(b a:Nat)(e:b<=a)(d:a<S.size):(S.extract b (a+1)).data.toList=(S.extract b a).data.toList++[S[a]]:=by
 have c:a+1 - b=(a - b)+1:=by omega
 have f:a<S.data.toList.length:=by rw[cW];exact d
 simp only[ByteArray.data_extract,Array.toList_extract,List.extract_eq_take_drop];rw[c,ft (by rw[bW];omega),List.getElem_drop];congr 2;simp only[Nat.add_sub_cancel' e];rfl
theorem Ny(S:ByteArray)(d:World)(W:S.size<=1000000000):Calls prog 17 #[θ S] d λQ A=>∃(l:Value) (b:List ByteArray),Q=.returned l/\bz A 1 l b.length (b.map Value.string)/\b.map (·.data.toList)=Hb [] S.data.toList/\b.length<=S.size/\Below d.heap.size d A:=by
 have⟨K,U,N,O,P⟩:=jc Tryz.QK;go_in;go_wp2_with fail;go_loopw[3,4,5] (λl fr m wr=>∃(a c:Nat) (b:List ByteArray),a<=S.size/\c<=a/\Hid (b.length<=a)/\fr=ι κ c/\m=ι κ a/\Hid (wr.ownsRow d.heap.size 9 1 l b.length (b.map .string))/\Hid (Hb [] S.data.toList=b.map (·.data.toList)++Hb (S.extract c a).data.toList (S.data.toList.drop a))/\Hid (Below d.heap.size d wr)) (λ_ _ m _=>S.size - (intOf m).toNat);case atStart=>exact⟨0,0,[],aI _,ae _,au (ae _),rfl,rfl,au ⟨rfl,.inl ⟨rfl,rfl⟩⟩,au (by simp),au (ah _ _)⟩
 case round=>
  obtain⟨a,c,b,H,u,f,rfl,rfl,g,o,e⟩:=hrel;have v:=g.J;obtain⟨M,F,rfl,-,-⟩:=cu v;clear v;by_cases s:a<S.size
  .have Y:(a:Int)<(S.size:Int):=(by omega);have t:S.data.toList.drop a=S[a]::S.data.toList.drop (a+1):=(by rw[cE (by rw[cW];exact s)];rfl);have p:Hid (Hb [] S.data.toList=b.map (·.data.toList)++if S[a]=10 then(S.extract c a).data.toList::Hb [] (S.data.toList.drop (a+1))else Hb ((S.extract c a).data.toList++[S[a]]) (S.data.toList.drop (a+1))):=au (by rw[o.J,t,Hb]);clear t;by_cases k:S[a]=10
   .have G:((S[a].toNat:Int)==10)=true:=by rw[k];rfl
    have X:∀d,(Instr.slice 9 (θ S) (σ (ι κ c)) (σ (ι κ a)) ν).run prog d=.ok (θ (S.extract c a)) d:=λd=>sj d 9 S underlying9 c a u H;have i:Hid (Hb [] S.data.toList=(b++[S.extract c a]).map (·.data.toList)++Hb (S.extract (a+1) (a+1)).data.toList (S.data.toList.drop (a+1))):=au (by rw[p.J,aF k];simp);have R:=au (World.news_of_block (w:=wr.alloc (ξ #[θ (S.extract c a)] 9)) (B:=wr.heap.size) (ak wr (ξ #[θ (S.extract c a)] 9)));have n:=au (g.J.alloc (ξ #[θ (S.extract c a)] 9));have E:Hid (b.length+1<=maxLen):=au (by have:=f.J;unfold maxLen;omega);have D:Hid ((b.length+1)*16<=140737488355328):=au (by have:=f.J;omega);have r:Hid (d.heap.size<=(wr.alloc (ξ #[θ (S.extract c a)] 9)).heap.size):=au (by have:=e.J.size;simp;omega);go_wp2_with(at_builtin;refine ou _ rfl _ _ 47 rfl d.heap.size 9 K _ 1 16 underlying47 U N O P rfl (by decide) (.slice M b.length F) b.length (b.map .string) rfl n.J (Ad wr.heap.size 0) 1 1 [θ (S.extract c a)] rfl rfl R.J (by simp[Value.oneCell']) E.J D.J r.J ?_);intro T B x w _;have z:Hid (B.ownsRow d.heap.size 9 1 T (b++[S.extract c a]).length ((b++[S.extract c a]).map .string)):=au (by rw[aw,cZ];exact x);have y:Hid (Below d.heap.size d B):=au (((e.J.alloc e.J.size _)).grown w r.J (λL I=>(n.J.lt L I).1));have j:Hid ((b++[S.extract c a]).length<=a+1):=au (by have:=f.J;rw[aw,gE];omega);clear x w;go_wp2_with fail
    first
    |exact⟨⟨a+1,a+1,_,by omega,ae _,j,by go_num,by go_num,z,i,y⟩,by simp[intOf];omega⟩
    | (go_roundw
       case rel=>exact⟨a+1,a+1,_,by omega,ae _,j,by go_num,by go_num,z,i,y⟩
       case measure=>simp[intOf];omega)
   have G:((S[a].toNat:Int)==10)=false:=by
    rw[aK];exactλV=>k (iY.1 (show S[a].toNat=10 by omega))
   have i:Hid (Hb [] S.data.toList=b.map (·.data.toList)++Hb (S.extract c (a+1)).data.toList (S.data.toList.drop (a+1))):=au (by
    rw[p.J,aE k,afJ S c a u s])
   have j:Hid (b.length<=a+1):=au (Nat.le_succ_of_le f.J);go_wp2_with fail
   first
   |exact⟨⟨a+1,c,_,by omega,by omega,j,rfl,by go_num,g,i,e⟩,by simp[intOf];omega⟩
   | (go_roundw
      case rel=>exact⟨a+1,c,_,by omega,by omega,j,rfl,by go_num,g,i,e⟩
      case measure=>simp[intOf];omega)
  obtain rfl:a=S.size:=(by omega);have C:Hid (b.map (·.data.toList)=Hb [] S.data.toList):=au (by rw[o.J,rm (by rw[cW];exact ae _)];simp[Hb]);go_wp2;go_ret;exact⟨_,b,rfl,bz.fM g.J,C.J,f.J,e.J⟩
section
open Go.Maps
theorem asE(q a:ByteArray):q++⟨#[32,124,32,108,105,109,105,116,32]⟩++a=tL q a:=by rw[show(⟨#[32,124,32,108,105,109,105,116,32]⟩:ByteArray)=c4++bs [32]by kernel_rfl];unfold tL;simp only[ByteArray.append_assoc]
theorem Wy{a b:List ByteArray}{c d:List (List UInt8)}(g:a.map (·.data.toList)=c)(i:b.map (·.data.toList)=d)(e:d=c.take w):b=a.take w:=by subst g i;rw[<- List.map_take]at e;exact(List.map_inj_right λj k f=>by cases j;cases k;simpa using f).1 e
theorem Wz{l:World}{f:vV}{ops:List OpS}{sv:Value}{I query:ByteArray}{D:Int}(C:rK l)(p:bz l 3 sv ops.length (ops.flatMap opL))(hl:ops.length<=9000000000000000000)(hu:∀cN∈ops,cN.2.1.size<=maxLen)(N:I.size<=maxLen)(hn:D<=9223372036854775807) :
 Calls prog 5 #[f.val,sv,θ I,θ query,ι κ D] l λj w'=>j=.returned (.bool true)/\Below l.heap.size l w':=by
 obtain⟨va,dG,rfl⟩:=bz.slice p;obtain⟨G,E,v,F,push,y⟩:=f;have W:vV.val ⟨G,E,v,F,push,y⟩=.agg #[ι κ G,ι κ E,ι κ v,.bool F,.bool push,ι κ y]:=rfl;have⟨f,hf⟩:=nm (⟨G,E,v,F,push,y⟩:vV);rw[<- hf]at W ⊢;have⟨cv,V⟩:=nm (l.alloc (ξ #[ι κ G,ι κ E,ι κ v,.bool F,.bool push,ι κ y] 23));have jw:=pq V;have ax:cv.heap[l.heap.size]?=σ (ξ #[ι κ G,ι κ E,ι κ v,.bool F,.bool push,ι κ y] 23 (0,0)):=by rw[V];exact ak l _
 have J5:=au (Nc f (C.on (jw.mono C.size)));have n:=au C;have HS:=au p;have HU:=au hu;have X:=au jw;have HW:=au V;have ci:=au ax;have cB:=ay ax;rw[W]at J5 ⊢;have ce:=au W;clear C p hu jw V ax hf W;go_in;go_wp2_with fail;rw[<- HW.J];refine J5.J.mono ?_;rintro j w1 ⟨rfl,z⟩;have sP:=X.J.trans (z.mono X.J.size);have EX:=n.J.on (sP.mono n.J.size);have HQ:=au (Gm query w1 EX.laid (by have:=EX.size;omega));have iC:=au z;have cb:=au sP;clear z sP EX;by_cases U1:D<0;{go_wp2;go_ret;exact⟨rfl,cb.J⟩};obtain⟨d,rfl⟩:∃d:Nat,D=d:=⟨D.toNat,by omega⟩;go_wp2_with fail;refine HQ.J.mono ?_;rintro j w2 ⟨rfl,cV⟩;have Q:=iC.J.trans (cV.mono iC.J.size);have t:=au (X.J.trans (Q.mono X.J.size));cases hq:Ic query with
 |false=>clear cV Q;go_wp2;go_ret;exact⟨rfl,t.J⟩
 |true=>
  have np:=(Q.block _ cB).trans ci.J;have⟨j0,j1,j2,j3,j4,j5⟩:=Kr np;have Aa:=ay np;have tR:=n.J.on (t.J.mono n.J.size);have Ts:=au (Kq (f:=f) tR (bz.below HS.J t.J (ae _)) hl HU.J (X0:=λ_=>False) (λao k=>k.elim));rw[ce.J]at Ts;clear cV Q np tR;go_wp2_with fail;refine Ts.J.mono ?_;rintro j w5 ⟨ds,X5,M5,rfl,H,-,-,hm,zn⟩;have⟨st,jh⟩:=nm (yX ⟨[],[]⟩ ops);rw[<- jh]at H;have zo:=au (t.J.trans (zn.mono t.J.size));have ck:=au (λao k=>(show l.heap.size<=ao from ag t.J.size (hm ao k)));have Uz:=n.J.on (zo.J.mono n.J.size);have oy:query.size<=300:=by have⟨_,_,_,_,_,_,_,a⟩:=AG hq;omega
  have db:(qY d).size<=19:=(by have:=Ii 18 d (by omega);simpa[qY,ByteArray.size]using this)
  have o:=au (Ti (bud:=f.opt.bud) H.told N hq (afG (n:=d) (by omega)));have al:=au (Da (bud:=f.opt.bud) H.told hq N);have HA:=au (Er H Uz N (t:=query) rfl (Db (bud:=f.opt.bud) (user:=I) hq));clear H jh hm zn Uz j0 j1 j2 j3 j4 j5 Aa;go_wp2_with fail;refine HA.J.mono ?_;rintro j r ⟨rfl,X6,M6,bo⟩;have⟨c,A⟩:=nm ((oE f.opt.bud st I query).1);rw[<- A]at o al ⊢;obtain⟨U5,b2,b4,bw,a0,-⟩:=Bl ck.J zo.J.size bo (ξ #[θ ⟨c.1.toArray⟩,ι κ (c.2.1:Nat),ι κ (c.2.2:Nat)] 30);have MO:=ak r (ξ #[θ ⟨c.1.toArray⟩,ι κ (c.2.1:Nat),ι κ (c.2.2:Nat)] 30);have⟨W6,ar⟩:=nm (r.alloc (ξ #[θ ⟨c.1.toArray⟩,ι κ (c.2.1:Nat),ι κ (c.2.2:Nat)] 30));rw[<- ar]at U5 bw a0 MO;have Ho:=au (zo.J.trans U5);have HD:=au (Yq d W6 (by omega));have co:=au a0;have cl:=au b2;have a4:=au b4;have cg:=au MO;have cr:=au ar;unfold zi;clear bo A U5 b2 b4 a0 MO ar;go_wp2_with fail;rw[<- cr.J];refine HD.J.mono ?_;rintro j v ⟨rfl,O⟩;have ad:=au (Ho.J.trans (O.mono Ho.J.size));have bv:=n.J.on (ad.J.mono n.J.size);have cc:=au (Er (co.J.wide O) bv N (asE query (qY d)) o.J.1);have DB:=au ((O.block _ bw).trans cg.J);have b1:=ay DB.J;clear O bv;go_wp2_with fail;refine cc.J.mono ?_;rintro j u ⟨rfl,X7,M7,ap⟩;have⟨b,bm⟩:=nm ((oE f.opt.bud st I (tL query (qY d))).1);rw[<- bm]at o ⊢;obtain⟨Fp,-,-,-,-,bb⟩:=Bl cl.J ad.J.size ap (ξ #[θ ⟨b.1.toArray⟩,ι κ (b.2.1:Nat),ι κ (b.2.2:Nat)] 30);have P:=ak u (ξ #[θ ⟨b.1.toArray⟩,ι κ (b.2.1:Nat),ι κ (b.2.2:Nat)] 30);have aC:=(ap.keep.block r.heap.size ⟨b1,a4.J⟩).trans DB.J;have⟨x0,K,x2⟩:=bf aC;have dd:=ay aC;have M:=(bb _ b1 a4.J).1.trans DB.J;have⟨W7,av⟩:=nm (u.alloc (ξ #[θ ⟨b.1.toArray⟩,ι κ (b.2.1:Nat),ι κ (b.2.2:Nat)] 30));rw[<- av]at Fp P M;have a2:=au (ad.J.trans Fp);have zc:=au (λwr (k:Below W7.heap.size W7 wr)=>(show(wr.cell? ⟨r.heap.size,0,ν⟩=σ (θ ⟨c.1.toArray⟩)/\wr.cell? ⟨r.heap.size,1,ν⟩=σ (ι κ (c.2.1:Nat))/\wr.cell? ⟨r.heap.size,2,ν⟩=σ (ι κ (c.2.2:Nat)))/\(wr.cell? ⟨u.heap.size,0,ν⟩=σ (θ ⟨b.1.toArray⟩)/\wr.cell? ⟨u.heap.size,1,ν⟩=σ (ι κ (b.2.1:Nat))/\wr.cell? ⟨u.heap.size,2,ν⟩=σ (ι κ (b.2.2:Nat)))/\r.heap.size<wr.heap.size/\u.heap.size<wr.heap.size/\Below l.heap.size l wr from by
   have A:=(k.block _ (ay M)).trans M;have hB:=(k.block _ (ay P)).trans P;exact⟨bf A,bf hB,ay A,ay hB,a2.J.trans (k.mono a2.J.size)⟩))
  have Vu:=au (Eo al.J W7);have cs:=au av;unfold zi at Vu ⊢;clear ap bm Fp P bb M av aC;go_wp2_with fail;rw[<- cs.J];refine Vu.J.mono ?_;rintro j w8 ⟨rfl,Ek⟩;obtain⟨⟨cS,c0,c5⟩,⟨y0,L,y2⟩,l6,l7,-⟩:=zc.J w8 Ek;have PH:=au (Eo o.J.2.1 w8);have a3:=au Ek;unfold zi at PH;clear Ek x0 K x2;go_wp2_with fail;refine PH.J.mono ?_;rintro j w9 ⟨rfl,bt⟩;have am:=a3.J.trans (bt.mono a3.J.size);have⟨⟨x0,K,x2⟩,⟨b8,ab,b9⟩,dg,dl,bl⟩:=zc.J w9 am;have ca:=au bl;have R:=au am;clear bt bl am cS c0 c5 y0 L y2;by_cases B:c.2.1=0
  .rw[B]at K;by_cases k:b.2.1=0
   .obtain⟨a,-⟩|⟨-,a|a|⟨-,xB⟩⟩:=o.J.2.2;{exact absurd B a};{omega};{omega};have a1:c.1.length<=1000000000:=by rcases al.J with⟨a,-⟩|⟨-,-,a,-⟩;exact absurd B a;exact a
    have b6:b.1.length<=1000000000:=by rcases o.J.2.1 with⟨a,-⟩|⟨-,-,a,-⟩;exact absurd k a;exact a
    rw[k]at ab;have cj:=au (Ny ⟨c.1.toArray⟩ w9 (by simpa[ByteArray.size]using a1));have Om:=au (λwr=>Ny ⟨b.1.toArray⟩ wr (by simpa[ByteArray.size]using b6));have Gy:=au xB;have bd:(⟨c.1.toArray⟩:ByteArray).size<=1000000000:=(by simpa[ByteArray.size]using a1);clear xB b6 a1;go_wp2_with fail;refine cj.J.mono ?_;rintro j Z ⟨va,g,rfl,b5,b0,bx,x⟩;obtain⟨-,⟨y0,L,y2⟩,-,l7,s⟩:=zc.J Z (R.J.trans (x.mono R.J.size));have a5:=au b5;have c7:g.length<=1000000000:=ag bx bd;have cd:=au b0;have T:=au s;have cp:=au s.size;clear x s b5 b0 bx bd x0 K x2 b8 ab b9;obtain⟨aa,ac,rfl⟩:=bz.slice a5.J;go_wp2_with fail;refine(Om.J Z).mono ?_;rintro j b7 ⟨vb,w,rfl,Z2,Zq,-,an⟩;obtain⟨ba,bc,rfl⟩:=bz.slice Z2;have aq:w=g.take (d+1):=Wy cd.J Zq Gy.J;have cA:=au (bz.below a5.J an (ae _));have a8:=au Z2;have be:=au (T.J.trans (an.mono cp.J));have bg:w.length=min (d+1) g.length:=(by rw[aq,bV])
    have cf:Hid (∀e m,w[e]?=σ m->g[e]?=σ m):=au (λe m a=>by
     rw[aq,gi]at a;split at a
     . exact a
     . cases a)
    clear an Z2 Zq aq y0 L y2;have⟨i,hN⟩:=nm w.length;rw[<- hN]at bg a8 ⊢;have cx:(g.length<=d+1/\d<9223372036854775807/\i=g.length)\/(d=9223372036854775807/\i=g.length)\/(d+1<g.length/\i=d+1):=(by omega);have cn:=au hN;have bi:i<=g.length:=(by omega);clear bg hN;have cm:=au bi;obtain⟨hw,hk,fy⟩|⟨rfl,fy⟩|⟨hw,fy⟩:=cx;(case' inl=>have sH:¬((d:Int)+1<(g.length:Int)):=(by omega);have b3:((i:Int) != (g.length:Int))=false:=by rw[mU];omega);(case' inr.inl=>have sH:(-9223372036854775808:Int)<(g.length:Int):=(by omega);have Ld:wrap64 9223372036854775808=-9223372036854775808:=(by kernel_rfl);have b3:((i:Int) != (g.length:Int))=false:=by rw[mU];omega);(case' inr.inr=>have sH:((d:Int)+1<(g.length:Int)):=(by omega);have b3:((i:Int) != (d:Int)+1)=false:=by rw[mU];omega);all_goals have c8:i<=1000000000:=(by omega);clear fy bi;go_wp2_with fail;go_loopw[17] (λU wr=>∃e:Nat,e<=i/\U=ι κ e/\Hid (Below b7.heap.size b7 wr)) (λU _=>i - (intOf U).toNat);(case atStart=>exact⟨0,aI _,rfl,au (ah _ _)⟩);case round=>obtain⟨e,hi,rfl,Y⟩:=hrel;by_cases cQ:e<i;{have jY:(e:Int)<(i:Int):=(by omega);have vx:(e:Int)<(g.length:Int):=(by have:=cm.J;omega);obtain⟨m,p⟩:∃m,w[e]?=σ m:=⟨_,af (by rw[<- cn.J];exact cQ)⟩;obtain⟨c6,dn,U,he,-,C,hx⟩:=bz.at (bz.below a8.J Y.J (ae _)) (by omega);cases he;obtain⟨g',o',c',he,-,Hk,Mu⟩:=bz.at (bz.below cA.J Y.J (ae _)) (by omega);cases he;have e1:=hx e (θ m) (by rw[aU,p];rfl);have e2:=Mu e (θ m) (by rw[aU,cf.J e m p];rfl);clear hx Mu p;go_wp2_with fail;go_quiet(fail);go_wp2_with fail;exact⟨⟨e+1,by omega,by go_num,au (below_drewN Y.J _)⟩,by simp[intOf];omega⟩};obtain rfl:e=i:=(by omega);have HE:=au (be.J.trans (Y.J.mono be.J.size));go_wp2;go_ret;exact⟨rfl,HE.J⟩
   have z:(((b.2.1:Nat):Int) != 0)=true:=(by rw[jD];omega)
   have Zx:Hid (b.2.1=10\/b.2.1=1):=au (by
    rcases o.J.2.2 with⟨a,-⟩|⟨-,a|a|⟨a,-⟩⟩
    . exact absurd B a
    . exact .inl a
    . exact .inr a
    . exact absurd a k)
   rcases Zx.J with a|a;all_goals rw[a]at ab z;go_wp2;go_ret;exact⟨by simp,ca.J⟩
  have c9:(((c.2.1:Nat):Int) != 0)=true:=by rw[jD];omega
  have Zx:Hid (c=b\/b.2.1=1):=au (by
   rcases o.J.2.2 with⟨-,a⟩|⟨a,-⟩
   . exact a
   . exact absurd a B)
  have a9:=au (Sv c b w9);unfold zi at a9;go_wp2_with fail;refine a9.J.mono ?_;rintro j Z ⟨rfl,x⟩;obtain⟨-,⟨y0,L,y2⟩,-,l7,s⟩:=zc.J Z (R.J.trans (x.mono R.J.size));have T:=au s;clear x s x0 K x2 b8 ab b9;by_cases FN:c=b;{rw[bU FN];go_wp2;go_ret;exact⟨by simp,T.J⟩};rw[aN FN];rw[Zx.J.resolve_left FN]at L;go_wp2;go_ret;exact⟨by simp,T.J⟩
end
