import Derived.Test.YtfeckmaleonjjaaGreatDoorFAQ
import Derived.Test.YtfeckmaleonjjaaGreatDoorFAP
import Derived.Maps.RangeWalk
set_option maxHeartbeats 0
set_option maxRecDepth 100000
namespace Go.Proofs.YtfeckmaleonjjaaGreatDoor
open Go.World renaming grownBy→Ψ
open Go.World renaming ownsRow→Φ
open List renaming length→Λ
open Go.RowKit
open _root_.Go.Proofs.Tryz
open Option renaming some→σ,none→ν
open Go.IntKind renaming i64→κ
open Go.Ending renaming returned→τ
open Go.Obj renaming cells→ξ
open Go renaming World→ω
open Go.Value renaming int→ι,string→θ,slice→ψ,pointer→π,agg→χ
variable{w v n i t s:Nat}{p:ω}{m:Γ}{x r:Int}{l:Δ Nat}{u:Bool}
namespace S
theorem yx.kept{w':ω}{row:Option Nat}(a:yx p w m v)(b:Ψ p w' row)(c:σ w≠row):yx w' w m v:=a.kY (b.block w a.lt c)
theorem UA(a:Nat)(e:a<18446744073709551616)(d:a % 2=1):wrap64 (bits BinOp.xor IntKind.u64 IntKind.u64.max ((a:Int) / 2))=rH a:=by
 have c:IntKind.u64.max=((18446744073709551615:Nat):Int):=by decide
 have b:(a:Int) / 2=((a / 2:Nat):Int):=by omega
 rw[b,c,u64_xor_nat _ _ (by omega) (by omega),Qv _ (by omega)];unfold rH;rw[aN d];unfold wrap64;omega
theorem UB(a:Nat)(f:ω)(d:a<18446744073709551616):Calls prog 343 #[ι .u64 (a:Int)] f λg j=>g=τ (ι κ (rH a))/\f=j:=by have e:bits BinOp.and IntKind.u64 (a:Int) 1=((a % 2:Nat):Int):=(by have:=u64_and_nat a 1 d (by omega);rwa[vz]at this);by_cases c:a % 2=1;{have i:(bits BinOp.and IntKind.u64 (a:Int) 1==1)=true:=(by rw[e,c];rfl);have b:=ak (UA a d c);go_in;go_wp2;go_ret;exact⟨bI Ending.returned (bI (Value.int IntKind.i64) b.J),rfl⟩};have i:(bits BinOp.and IntKind.u64 (a:Int) 1==1)=false:=(by rw[e,show a % 2=0 by omega];rfl);have b:Hid ((a:Int) / 2=rH a):=ak (by unfold rH;rw[aH c];omega);go_in;go_wp2;go_ret;exact⟨bI Ending.returned (bI (Value.int IntKind.i64) b.J),rfl⟩
theorem F8(c:Nat)(a:Γ)(b:Nat)(d:ω)(m:yx d c a b)(o:a.size<=140737488351232)(n:b+1<=1099511627776) :
 Calls prog 334 #[π (σ (Ad c 0))] d λf j=>f=τ (.bool (tK a b))/\yx j c a (b+1)/\Ψ d j (σ c):=by
 have l:rd a b 1=(tK a b).toNat:=by simp[rd]
 have k:=ak l;go_in;go_wp21;refine(pz c a b _ d m o (by omega) (by rw[show Int.toNat 1=1 from rfl];exact n)).mono ?_;rintro f p ⟨rfl,g,i⟩;rw[show Int.toNat 1=1 from rfl]at *;rw[k.J];cases hsb:tK a b;{have e:=ak hsb;go_wp2;go_ret;exact⟨by rw[e.J];rfl,g,i⟩};have e:=ak hsb;go_wp2;go_ret;exact⟨by rw[e.J];rfl,g,i⟩
theorem acB{bs:Δ UInt8}(b:Φ p w 5 1 (ψ (σ (Ad v 0)) (Λ bs) n) (Λ bs) (EP (bs.map UInt8.toNat))):(convert 252 9 (ψ (σ (Ad v 0)) (Λ bs) n)).run prog p=.ok (θ ⟨bs.toArray⟩) p:=by rw[qp p 252 9 5 _ _ _ underlying252 underlying5 underlying9];have c:(loadCells (Ad v 0) (Λ bs)).run prog p=.ok (((bs.map UInt8.toNat).map (λ(d:Nat)=>(d:Int))).map (Value.int .u8)).toArray p:=(by have:=vw (P:=prog) p (Ad v 0) (EP (bs.map UInt8.toNat)) (b.cells rfl);rw[show(EP (bs.map UInt8.toNat)).length=Λ bs by simp[EP]]at this;rw[this];simp[EP,Function.comp_def]);rw[v7 p _ _ _ _ c,fold_push];have a:(bs.map UInt8.toNat).map UInt8.ofNat=bs:=(by rw[iL];exact(fT (λe _=>UInt8.ofNat_toNat)).trans (List.map_id _));rw[a];simp
theorem fI{c:ω}{row:Option Nat}(a:Ψ p c row){b:Addr}(i:p.heap.size<=b.block)(e:Value):Ψ p (c.setCell b e) row:=
 ⟨a.os,a.tape,a.output,by simpa[World.setCell]using a.size,λd f g=>(aL c b e d (by omega)).trans (a.block d f g)⟩
theorem acC(a:Δ Nat)(b:Nat)(c:Nat):(EP (a++List.replicate (b+1) 0)).set (Λ a) (ι .u8 (c:Int))=EP ((a++[c])++List.replicate b 0):=by simp[EP,List.replicate_succ]
theorem YL(a:Nat):(madeCells (Value.int .u8 0).cells (a*1)).toList=EP (List.replicate a 0):=by
 have:∀b:Nat,[Value.int .u8 0][b % 1]?.getD default=Value.int .u8 0:=λb=>by rw[Nat.mod_one];rfl
 simp[madeCells,EP,Value.cells,this,List.map_const']
theorem Ca(f:Nat)(e:Γ)(d:Nat)(c b:Int)(g:ω)(i:yx g f e d)(G:e.size<=140737488351232)(C:0<=c)(Q:c<=1000)(D:0<=b)(R:b<=64)(T:d<=549755813888) :
 Calls prog 342 #[π (σ (Ad f 0)),ι κ c,ι κ b] g λj w=>j=τ (θ ⟨(rdStr e d b.toNat c.toNat).toArray⟩)/\yx w f e (d+c.toNat*b.toNat)/\Ψ g w (σ f):=by
 obtain⟨c,rfl⟩:=jI C;obtain⟨b,rfl⟩:=jI D;rw[cm,cm];obtain⟨I,F,L,M,K⟩:=info_parts Tryz.aip;have m:=i;go_in;go_wp2_with(at_make;refine eV _ rfl _ _ 252 rfl g.heap.size 5 I (ι .u8 0) 1 underlying252 F L M _ _ _ _ c rfl rfl rfl rfl (by rw[K];omega) (by unfold maxLen;omega) (ae _) ?_;intro w1 r s);rw[YL]at r;have z:=m.kept s (by simp);have x:=s.but (σ f);have Z:f<g.heap.size:=m.lt;go_wp2;go_loopw[13] (λk wr=>∃a:Nat,a<=c/\k=ι κ a/\Hid (Φ wr g.heap.size 5 1 (ψ (σ (Ad g.heap.size 0)) c c) c (EP ((rdStr e d b a).map UInt8.toNat++List.replicate (c - a) 0)))/\Hid (yx wr f e (d+a*b))/\Hid (Ψ g wr (σ f))) (λk _=>c - (intOf k).toNat);case atStart=>exact⟨0,aB _,rfl,ak (by simpa[rdStr]using r),ak (by simpa using z),x⟩
 case round=>obtain⟨a,X,rfl,n,p,o⟩:=hrel;by_cases A:a<c;{have P:=aX.2 A;have Y:a*b<=1000*64:=jr (by omega) (by omega);go_wp21;refine(pz f e (d+a*b) _ wr p.J G (by omega) (by rw[cm];omega)).mono ?_;rintro j N ⟨rfl,E,t⟩;rw[cm]at *;have l:=n.J.kept t (by simp[Value.ownBlock];omega);have O:(EP ((rdStr e d b a).map UInt8.toNat++List.replicate (c - a) 0)).length=c:=(by simp[EP,mX];omega);have U:N.cell? (Ad g.heap.size a)=σ (ι .u8 0):=(by rw[l.cellAt a (by omega),WA (by simp[mX];omega)];congr 2;simp[List.getD,mX,show 0<c - a by omega]);have V:=l.frozenAt a;have aa:=Qs e (d+a*b) b;generalize hV:rd e (d+a*b) b=v at *;have y:=ak hV;go_wp2;go_roundw;(case rel=>refine⟨a+1,by omega,by go_num,ak ?_,ak ?_,ak ?_⟩;{have i:=(l.stored a (ι .u8 ((v % 256:Nat):Int))).1;have j:=acC ((rdStr e d b a).map UInt8.toNat) (c - (a+1)) (v % 256);rw[bk,mX,show c - (a+1)+1=c - a by omega]at j;rw[j]at i;have B:(rdStr e d b (a+1)).map UInt8.toNat=(rdStr e d b a).map UInt8.toNat++[v % 256]:=(by rw[rdStr,cT,y.J];congr 1;simp only[List.map_cons,List.map_nil];rw[UInt8.toNat_ofNat_of_lt' (by have:=Nat.mod_lt v (show 0<256 by omega);exact this)]);rw[B];exact i};{have i:=E;rw[show d+(a+1)*b=d+a*b+b by rw[rS];omega];exact i.kY (aL _ _ _ _ (by show f≠g.heap.size;omega))};exact fI (o.J.trans t) (ae _) _);case measure=>simp[intOf];omega};obtain rfl:a=c:=(by omega);have u:=n.J;rw[dQ,eR,cM]at u;have H:=acB (bs:=rdStr e d b a) (by rw[mX];exact u);rw[mX]at H;go_wp2;go_ret;exact⟨rfl,p.J,o.J⟩
theorem vM(e:Nat)(c:Γ)(a:Nat)(d:Int)(b:ω)(y:yx b e c a)(s:c.size<=140737488351232)(T:a<=274877906944) :
 Calls prog 339 #[π (σ (Ad e 0)),ι κ d] b λn F=>n=τ (χ #[.bool (fg c d a).1.bH,ι κ (fg c d a).1.n,θ (fg c d a).1.s])/\yx F e c (fg c d a).2/\Ψ b F (σ e):=by
 have I:=y.alloc (zc false 0 ByteArray.empty);have O:=y.lt;have U:=lV c a 8;go_in;go_wp21;refine(pz e c a _ _ I s (by omega) (by rw[show Int.toNat 8=8 from rfl];omega)).mono ?_;rintro n g ⟨rfl,r,i⟩;rw[show Int.toNat 8=8 from rfl]at *;have o:=r;have v:=(dG b _ (σ e)).trans i;have t:g.cell? (Ad b.heap.size 0)=σ (.bool false):=i.cell (by rw[dj _ _ _ _ rfl];rfl) (by simp;omega);have D:g.cell? (Ad b.heap.size 1)=σ (ι κ 0):=i.cell (by rw[dj _ _ _ _ rfl];rfl) (by simp;omega);have E:g.cell? (Ad b.heap.size 2)=σ (θ ByteArray.empty):=i.cell (by rw[dj _ _ _ _ rfl];rfl) (by simp;omega);have u:g.heap[b.heap.size]?=(b.alloc (zc false 0 ByteArray.empty)).heap[b.heap.size]?:=i.block _ (by simp) (by simp;omega);have K:g.frozen? (Ad b.heap.size 0)=false:=(dI (a:=(Ad b.heap.size 0)) u).trans (jY _ _ _ _ rfl);have L:g.frozen? (Ad b.heap.size 1)=false:=(dI (a:=(Ad b.heap.size 1)) u).trans (jY _ _ _ _ rfl);have M:g.frozen? (Ad b.heap.size 2)=false:=(dI (a:=(Ad b.heap.size 2)) u).trans (jY _ _ _ _ rfl);have j:=show fg c d a=(if rd c a 8=0 then(⟨true,0,ByteArray.empty⟩,a+8)else if d=1 then(⟨false,0,⟨(rdStr c (a+8) 8 (rd c a 8 - 1)).toArray⟩⟩,a+8+(rd c a 8 - 1)*8)else(⟨false,rH (rd c (a+8) (rd c a 8 - 1)),ByteArray.empty⟩,a+8+(rd c a 8 - 1)))from rfl
 generalize rd c a 8=m at *;by_cases z:m=0;(case' pos=>subst z;rw[aN rfl]at j;have p:=ak j;have A:=t;have B:=D;have C:=E;have x:=o;have w:=v);case' neg=>
  have V:((m:Int)==0)=false:=by rw[aY];omega
  rw[aH z]at j;by_cases l:d=1;(case' pos=>have N:(d==1)=true:=(by rw[l];rfl);rw[aN l]at j;clear l);(case' neg=>have N:(d==1)=false:=(by rw[aY];exact l);rw[aH l]at j;clear l);all_goals
   have p:=ak j;clear j;go_wp21;first
    |refine(Ca e c (a+8) _ _ g o s (by omega) (by omega) (by omega) (by omega) (by omega)).mono ?_
    |refine(pz e c (a+8) _ g o s (by omega) (by omega)).mono ?_
   rintro n G ⟨rfl,r,i⟩;have k:G.heap[b.heap.size]?=g.heap[b.heap.size]?:=i.block _ (bT _ _ t) (by simp;omega);have A:=(dx (a:=(Ad b.heap.size 0)) k).trans t;have B:=(dx (a:=(Ad b.heap.size 1)) k).trans D;have C:=(dx (a:=(Ad b.heap.size 2)) k).trans E;have P:=(dI (a:=(Ad b.heap.size 0)) k).trans K;have Q:=(dI (a:=(Ad b.heap.size 1)) k).trans L;have R:=(dI (a:=(Ad b.heap.size 2)) k).trans M;(try rw[show Int.toNat 8=8 from rfl]at *);rw[show((m:Int) - 1).toNat=m - 1 by omega]at *;have x:=r;have w:=v.trans i;try
    have H:=Qs c (a+8) (m - 1);generalize rd c (a+8) (m - 1)=f at *;go_wp21;refine(UB f G (by simpa using H)).mono ?_;rintro n X ⟨rfl,rfl⟩
 all_goals go_wp2;refine aE (v:=χ #[.bool (fg c d a).1.bH,ι κ (fg c d a).1.n,θ (fg c d a).1.s]) ?_ rfl ⟨rfl,?_,?_⟩;{rw[p.J];simp[results,results339,go_sem,A,B,C];try rfl};{rw[p.J];exact(x.kY (by rw[aL _ _ _ _ (by show e≠b.heap.size;omega),aL _ _ _ _ (by show e≠b.heap.size;omega),aL _ _ _ _ (by show e≠b.heap.size;omega)]))};exact fI (fI (fI w (ae _) _) (ae _) _) (ae _) _
end S
namespace S
theorem CS(b:Γ)(c:Int)(a:Nat):(fg b c a).2<=a+2048:=by
 have d:=lV b a 8;have e:(2:Nat) ^ 8=256:=by decide
 unfold fg;split;{simp};split;{show a+8+(rd b a 8 - 1)*8<=_;omega};show a+8+(rd b a 8 - 1)<=_;omega
def mJ(s:Γ)(k:Int)(u:Nat):Nat->Δ Cl×Nat
 |0=>([],u)
 |n+1=>((mJ s k u n).1++[(fg s k (mJ s k u n).2).1],(fg s k (mJ s k u n).2).2)
theorem vN(d:Γ)(c:Int)(e a:Nat):(mJ d c e a).1.length=a:=by induction a with|zero=>rfl|succ a b=>simp[mJ,b]
theorem NK(c:Γ)(b:Int)(d a:Nat):(mJ c b d a).2<=d+a*2048:=by induction a with|zero=>simp[mJ]|succ a e=>have:=CS c b (mJ c b d a).2;simp only[mJ];omega
def nH:Cl:=⟨false,0,ByteArray.empty⟩
theorem yH(c:Nat):(madeCells (Value.agg #[.bool false,ι κ 0,θ ByteArray.empty]).cells (c*3)).toList=bW (List.replicate c nH):=by apply dr;intro a;have k:(Value.agg #[.bool false,ι κ 0,θ ByteArray.empty]).cells=#[.bool false,ι κ 0,θ ByteArray.empty]:=rfl;by_cases i:a<c*3;{have g:(List.replicate c nH)[a / 3]?=σ nH:=(by rw[dO,aN (by omega)]);obtain⟨d,e,f⟩:=I6 g;have j:(madeCells #[.bool false,ι κ 0,θ ByteArray.empty] (c*3)).toList[a]?=σ (#[Value.bool false,ι κ 0,θ ByteArray.empty][a % 3]!):=(by simp[madeCells,i]);rw[k,j];have b:a % 3=0\/a % 3=1\/a % 3=2:=(by omega);rcases b with b|b|b;{rw[show a / 3*3=a by omega]at d;rw[d,b];rfl};{rw[show a / 3*3+1=a by omega]at e;rw[e,b];rfl};rw[show a / 3*3+2=a by omega]at f;rw[f,b];rfl};rw[bM (by rw[dF,size_madeCells];omega),bM (by rw[uZ,ji];omega)]
theorem tq(a b:Δ Cl):bW (a++b)=bW a++bW b:=by simp[bW,List.flatMap_append]
theorem YN(a:Δ Cl)(d:Nat)(b c:Cl):(((bW (a++List.replicate (d+1) b)).set (Λ a*3) (.bool c.bH)).set (Λ a*3+1) (ι κ c.n)).set (Λ a*3+2) (θ c.s)=bW ((a++[c])++List.replicate d b):=by have e:bW (a++List.replicate (d+1) b)=bW a++([.bool b.bH,ι κ b.n,θ b.s]++bW (List.replicate d b)):=(by rw[tq,jb];rfl);have f:bW ((a++[c])++List.replicate d b)=bW a++([.bool c.bH,ι κ c.n,θ c.s]++bW (List.replicate d b)):=(by rw[cC,tq];rfl);have g:=uZ a;rw[e,f,<- g];rw[eO _ _ (ae _),eO _ _ (by omega),eO _ _ (by omega)];congr 1;rw[dQ,show(bW a).length+1 - (bW a).length=1 by omega,show(bW a).length+2 - (bW a).length=2 by omega];rfl
theorem Ar{a:Δ Cl}{b c:Cl}(d:Φ p w 263 3 (ψ (σ (Ad v 0)) n i) n (bW (a++List.replicate (t+1) b))) :
 (((p.setCell (Ad v (Λ a*3)) (.bool c.bH)).setCell (Ad v (Λ a*3+1)) (ι κ c.n)).setCell (Ad v (Λ a*3+2)) (θ c.s)).ownsRow w 263 3 (ψ (σ (Ad v 0)) n i) n (bW ((a++[c])++List.replicate t b)):=by rw[<- YN a t b c];exact(((d.stored _ _).1.stored _ _).1.stored _ _).1
theorem uH{c:Δ Cl}{a:Cl}(b:Φ p w 263 3 (ψ (σ (Ad v 0)) n i) n (bW (c++List.replicate (s+1) a)))(e:Λ c=t) :
 (p.cell? (Ad v (t*3))=σ (.bool a.bH)/\p.cell? (Ad v (t*3+1))=σ (ι κ a.n)/\p.cell? (Ad v (t*3+2))=σ (θ a.s))/\p.frozen? (Ad v (t*3))=false/\p.frozen? (Ad v (t*3+1))=false/\p.frozen? (Ad v (t*3+2))=false:=by
 have d:(c++List.replicate (s+1) a)[t]?=σ a:=by rw[br (by omega),e,dQ];rfl
 have:=Bg b t a d;rw[gD]at this;exact⟨this,b.frozenAt _,b.frozenAt _,b.frozenAt _⟩
theorem K5(g:Nat)(b:Γ)(e:Nat)(c:Int)(d:Nat)(f:ω)(o:yx f g b e)(O:b.size<=140737488351232)(hn:d<=255)(hb:e<=1000000) :
 Calls prog 355 #[χ #[],π (σ (Ad g 0)),ι κ c,ι κ (d:Int)] f λv z=>∃y,v=τ y/\Φ z f.heap.size 263 3 y d (bW (mJ b c e d).1)/\Ψ f z (σ g):=by
 obtain⟨P,N,R,U,Q⟩:=info_parts Tryz.I8;have B:=o.alloc (ξ #[] 344);have V:=o.lt;clear o;go_in;go_wp2_with(at_make;refine eV _ rfl _ _ 247 rfl f.heap.size 263 P _ 3 underlying247 N R U _ _ _ _ d rfl rfl rfl rfl (by rw[Q];omega) (by unfold maxLen;omega) (by simp) ?_;intro w1 m n);rw[yH]at m;have u:=B.kept n (by simp);have A:=m;have E:=(dG f (ξ #[] 344) (σ g)).trans (n.but (σ g));have F:=u;clear m n u;go_wp2;go_loopw[15] (λi wr=>∃a:Nat,a<=d/\i=ι κ a/\Hid (Φ wr f.heap.size 263 3 (ψ (σ (Ad (f.heap.size+1) 0)) d d) d (bW ((mJ b c e a).1++List.replicate (d - a) nH)))/\Hid (yx wr g b (mJ b c e a).2)/\Hid (Ψ f wr (σ g))) (λi _=>d - (intOf i).toNat);case atStart=>exact⟨0,aB _,rfl,ak (by simpa[mJ]using A),ak (by simpa[mJ]using F),E⟩
 case round=>obtain⟨a,X,rfl,s,H,t⟩:=hrel;by_cases M:a<d;{have gY:=aX.2 M;have L:=NK b c e a;have I:a*2048<=255*2048:=iC _ (by omega);go_wp21;refine(vM g b _ c wr H.J O (by omega)).mono ?_;rintro v w2 ⟨rfl,w,p⟩;have k:=s.J.kept p (by simp[Value.ownBlock];omega);have l:=vN b c e a;rw[show d - a=(d - (a+1))+1 by omega]at k;obtain⟨⟨Y,Z,c2⟩,f0,f1,f2⟩:=uH k l;have j:=Ar (c:=(fg b c (mJ b c e a).2).1) k;rw[l]at j;have x:(mJ b c e (a+1)).1=(mJ b c e a).1++[(fg b c (mJ b c e a).2).1]:=rfl;rw[<- x]at j;have G:Hid ((mJ b c e (a+1)).2=(fg b c (mJ b c e a).2).2):=ak rfl;have C:=w;have D:=t.J.trans p;generalize (fg b c (mJ b c e a).2).1=i at *;have T:=j;clear w p k l x j L I;go_wp2;go_roundw;(case rel=>refine⟨a+1,by omega,by go_num,T,ak ?_,ak ?_⟩;{rw[G.J];exact C.kY (by rw[aL _ _ _ _ (by show g≠f.heap.size+1;omega),aL _ _ _ _ (by show g≠f.heap.size+1;omega),aL _ _ _ _ (by show g≠f.heap.size+1;omega)])};exact fI (fI (fI D (dt _) _) (dt _) _) (dt _) _);case measure=>simp[intOf];omega};obtain rfl:a=d:=(by omega);have r:=s.J;rw[dQ,eR,cM]at r;have K:=ak r;clear r;go_wp2;go_ret;exact⟨_,rfl,K.J,t.J⟩
end S
namespace S
def mr(s:Γ)(k:Int)(n:Nat):Nat->Δ Cl->Nat->Δ Cl
 |0,l,_=>l
 |f+1,l,u=>if Λ l<n then mr s k n f (l++List.replicate (min (rd s u 8+1) (n - Λ l)) (fg s k (u+8)).1) (fg s k (u+8)).2 else l
def Hd(s:Γ)(k:Int)(u n:Nat):Δ Cl:=mr s k n n [] u
theorem Cb(e:Γ)(d:Int)(c a:Nat)(b:Δ Cl)(f:Nat)(g:c<=Λ b):mr e d c a b f=b:=by cases a with|zero=>rfl|succ a=>rw[mr,aH (by omega)]
theorem GD(j:Γ)(i:Int)(c:Nat):∀(a:Nat) (b:Δ Cl) (d:Nat),Λ b<=c->c - Λ b<=a->(mr j i c a b d).length=c:=by intro a;induction a with|zero=>(intro b d e f;rw[mr];omega)|succ a g=>intro b d e f;rw[mr];split;{apply g;{rw[au,ji];omega};rw[au,ji];omega};omega
theorem NL(l:Nat)(d:Γ)(o:Nat)(i:Int)(a:Nat)(e:ω)(N:yx e l d o)(R:d.size<=140737488351232)(hn:a<=255)(hb:o<=1000000) :
 Calls prog 337 #[χ #[],π (σ (Ad l 0)),ι κ i,ι κ (a:Int)] e λy V=>∃p,y=τ p/\Φ V e.heap.size 263 3 p a (bW (Hd d i o a))/\Ψ e V (σ l):=by
 obtain⟨T,O,lB,U,kV⟩:=info_parts Tryz.I8;have Z:=N.alloc (ξ #[] 341);have EJ:=N.lt;go_in;go_wp2_with(at_make;refine wpList_make_own _ rfl _ _ 247 rfl e.heap.size 263 T _ 3 underlying247 O lB U _ _ _ a rfl rfl rfl (by rw[kV];omega) (by unfold maxLen;omega) (by simp) ?_;intro w1 dy M);have YM:=Z.kept M (by simp);have HG:=(dG e (ξ #[] 341) (σ l)).trans (M.but (σ l));go_wp2;go_loopw[9] (λp wr=>∃(b n g:Nat) (k:Δ Cl),Hid (Λ k=b)/\b<=a/\a - b<=n/\g<=o+b*2060/\p=ψ (σ (Ad (e.heap.size+1) 0)) b a/\Hid (mr d i a n k g=Hd d i o a)/\Hid (Φ wr e.heap.size 263 3 (ψ (σ (Ad (e.heap.size+1) 0)) b a) b (bW k))/\Hid (yx wr l d g)/\Hid (Ψ e wr (σ l))) (λp _=>a - lenOf p);case atStart=>exact⟨0,a,o,[],ak rfl,aB _,by omega,by omega,rfl,ak rfl,ak (by simpa[bW]using dy),YM,HG⟩
 case round=>
  obtain⟨b,n,g,k,v,av,hf,A,rfl,E,G,NJ,I⟩:=hrel;by_cases L:b<a
  .have gY:=aX.2 L;have XS:b*2060<=255*2060:=iC _ (by omega);obtain⟨n,rfl⟩:∃f',n=f'+1:=⟨n - 1,by omega⟩;go_wp21;refine(pz l d g _ wr NJ.J R (by omega) (by rw[show Int.toNat 8=8 from rfl];omega)).mono ?_;rintro y w2 ⟨rfl,z,s⟩;rw[show Int.toNat 8=8 from rfl]at *;have ax:=lV d g 8;have ar:(2:Nat) ^ 8=256:=(by decide);have Mi:Hid (mr d i a (n+1) k g=if Λ k<a then mr d i a n (k++List.replicate (min (rd d g 8+1) (a - Λ k)) (fg d i (g+8)).1) (fg d i (g+8)).2 else k):=ak rfl;generalize rd d g 8=D at *;have H4:=z;have sE:=G.J.kept s (by simp[Value.ownBlock];omega);have aa:=I.J.trans s;have ao:D<256:=(by omega);go_wp21;refine(vM l d (g+8) i w2 H4 R (by omega)).mono ?_;rintro y m ⟨rfl,z,s⟩;have uq:=CS d i (g+8);have Q:=sE.kept s (by simp[Value.ownBlock];omega);have X:=Q;have ab:=aa.trans s;have aC:e.heap.size+1<m.heap.size:=(Q.lt (e.heap.size+1) rfl).2;generalize hC:(fg d i (g+8)).1=c at *;generalize hU:(fg d i (g+8)).2=u2 at *;have HC:=ak hC;have w:(m.alloc (zc c.bH c.n c.s)).cell? (Ad m.heap.size 0)=σ (.bool c.bH):=(by rw[dj _ _ _ _ rfl];rfl);have B:(m.alloc (zc c.bH c.n c.s)).cell? (Ad m.heap.size 1)=σ (ι κ c.n):=(by rw[dj _ _ _ _ rfl];rfl);have C:(m.alloc (zc c.bH c.n c.s)).cell? (Ad m.heap.size 2)=σ (θ c.s):=(by rw[dj _ _ _ _ rfl];rfl);have HQ:=ak (And.intro w (And.intro B C));have al:=z.alloc (zc c.bH c.n c.s);obtain⟨r,hm⟩:∃r:Nat,min (D+1) (a - b)=r:=⟨_,rfl⟩;have wC:min ((D:Int)+1) ((a:Int) - (b:Int))=r:=(by omega);go_wp2;go_loopw[9,31] (λp x wr=>∃f:Nat,f<=r/\x=ι κ f/\p=ψ (σ (Ad (e.heap.size+1) 0)) (b+f) a/\Hid (Φ wr e.heap.size 263 3 (ψ (σ (Ad (e.heap.size+1) 0)) (b+f) a) (b+f) (bW (k++List.replicate f c)))/\Hid (wr.cell? (Ad m.heap.size 0)=σ (.bool c.bH)/\wr.cell? (Ad m.heap.size 1)=σ (ι κ c.n)/\wr.cell? (Ad m.heap.size 2)=σ (θ c.s))/\Hid (yx wr l d u2)/\Hid (Ψ e wr (σ l))) (λ_ x _=>r - (intOf x).toNat);(case atStart=>exact⟨0,aB _,rfl,rfl,ak (by simpa using X.alloc _),HQ,al,ak (ab.trans (dG _ _ _))⟩);case round=>
    obtain⟨f,j,rfl,rfl,H,ag,K,F⟩:=hrel;by_cases Y:f<r
    .have PA:=aX.2 Y;obtain⟨w,B,C⟩:=ag.J;have lu:m.heap.size<wr.heap.size:=bT _ _ w;go_wp2_with(at_builtin;refine wpList_append_fits _ rfl _ _ 247 rfl e.heap.size 263 T 3 underlying247 O U (e.heap.size+1) (b+f) a _ rfl (H.J.alloc _) (Ad wr.heap.size 0) 1 1 [.bool c.bH,ι κ c.n,θ c.s] rfl rfl ?c1 ?c2 (by omega) ?_);case c1=>
      intro f o j
      match f,j with
      |0,j=>simp at j;subst j;simp[Addr.add]
      |1,j=>simp at j;subst j;simp[Addr.add]
      |2,j=>simp at j;subst j;simp[Addr.add]
     (case c2=>intro o A;simp at A;rcases A with rfl|rfl|rfl<;>rfl);intro w5 an am;have u:=(dG wr (zc c.bH c.n c.s) (σ (e.heap.size+1))).trans am;have OP:=an;have ad:=ak (And.intro (u.cell w (by simp;omega)) (And.intro (u.cell B (by simp;omega)) (u.cell C (by simp;omega))));have ai:=K.J.kept u (by simp;omega);have ac:=F.J.andThen u (λap hg=>by cases hg;omega);go_wp2;go_roundw;(case rel=>refine⟨f+1,by omega,by go_num,rfl,ak ?_,ad,ai,ac⟩;have P:=OP;rw[<- F7,cC]at P;rw[show List.replicate (f+1) c=List.replicate f c++[c]from List.replicate_succ'];exact P);case measure=>simp[intOf];omega
    obtain rfl:f=r:=(by omega);go_wp2;go_roundw;(case rel=>refine⟨b+f,n,u2,k++List.replicate f c,ak (by rw[au,ji,v.J]),by omega,by omega,by rw[nU];omega,rfl,ak ?_,H,K,F⟩;have t:=Mi.J.symm.trans E.J;rw[aN (by rw[v.J];exact L),v.J,hm]at t;exact t);case measure=>show a - (b+f)<a - b;omega
  obtain rfl:b=a:=(by omega);go_wp2;go_ret;refine⟨_,rfl,?_,I.J⟩;have t:=E.J;rw[Cb _ _ _ _ _ _ (by rw[v.J];omega)]at t;rw[<- t];exact G.J
end S
namespace S
def vO(es:Δ Cl)(q:Nat):Cl:=es.getD q nH
def kL(s:Γ)(es:Δ Cl)(wd u:Nat):Nat->Δ Cl
 |0=>[]
 |n+1=>kL s es wd u n++[vO es (rd s (u+n*wd) wd)]
theorem xu(d:Γ)(b:Δ Cl)(f e a:Nat):(kL d b f e a).length=a:=by induction a with|zero=>rfl|succ a c=>simp[kL,c]
def Bh(s:Γ)(k:Int)(u n:Nat):Δ Cl:=
 kL s (mJ s k (u+8) (rd s u 8)).1 (pw (rd s u 8)) (mJ s k (u+8) (rd s u 8)).2 n
theorem YP(b:Δ Cl)(c:Nat)(a:Cl):b++List.replicate (c+1) a=(b++[a])++List.replicate c a:=by rw[cC];rfl
theorem NM(f:Nat)(a:Γ)(c:Nat)(d:Int)(i:Nat)(g:ω)(M:yx g f a c)(w:a.size<=140737488351232)(hn:i<=255)(hb:c<=1000000) :
 Calls prog 347 #[χ #[],π (σ ⟨f,0,ν⟩),ι κ d,ι κ (i:Int)] g λt Y=>∃X,t=τ X/\Φ Y g.heap.size 263 3 X i (bW (Bh a d c i))/\Ψ g Y (σ f):=by
 obtain⟨R,P,U,V,T⟩:=info_parts Tryz.I8;have aa:=M.alloc (ξ #[] 342);have EJ:=M.lt;go_in;go_wp21;refine(pz f a c _ _ aa w (by omega) (by rw[show Int.toNat 8=8 from rfl];omega)).mono ?_;rintro t k ⟨rfl,u,l⟩;rw[show Int.toNat 8=8 from rfl]at *;have a3:=lV a c 8;have ap:(2:Nat) ^ 8=256:=by decide
 have ab:Hid (Bh a d c i=kL a (mJ a d (c+8) (rd a c 8)).1 (pw (rd a c 8)) (mJ a d (c+8) (rd a c 8)).2 i):=ak rfl;generalize rd a c 8=z at *;have aT:z<=255:=by omega
 have WI:=u;have ag:=(dG g (ξ #[] 342) (σ f)).trans l;have a4:g.heap.size+1<=k.heap.size:=by have:=l.size;simpa using this
 go_wp2_with(at_make;refine eV _ rfl _ _ 247 rfl g.heap.size 263 R _ 3 underlying247 P U V _ _ _ _ z rfl rfl rfl rfl (by rw[T];omega) (by unfold maxLen;omega) (by omega) ?_;intro w1 s m);rw[yH]at s;have CQ:=s;have HG:=ag.trans (m.but (σ f));have HR:=WI.kept m (by simp);go_wp2;go_loopw[20] (λj wr=>∃b:Nat,b<=z/\j=ι κ b/\Hid (Φ wr g.heap.size 263 3 (ψ (σ ⟨k.heap.size,0,ν⟩) z z) z (bW ((mJ a d (c+8) b).1++List.replicate (z - b) nH)))/\Hid (yx wr f a (mJ a d (c+8) b).2)/\Hid (Ψ g wr (σ f))) (λj _=>z - (intOf j).toNat);case atStart=>exact⟨0,aB _,rfl,ak (by simpa[mJ]using CQ),ak (by simpa[mJ]using HR),HG⟩
 case round=>
  obtain⟨b,GY,rfl,G,L,K⟩:=hrel;by_cases cK:b<z;{have gY:=aX.2 cK;have aC:=NK a d (c+8) b;have OE:b*2048<=255*2048:=iC _ (by omega);go_wp21;refine(vM f a _ d wr L.J w (by omega)).mono ?_;rintro t w2 ⟨rfl,u,l⟩;have y:=G.J.kept l (by simp[Value.ownBlock];omega);have r:=vN a d (c+8) b;rw[show z - b=(z - (b+1))+1 by omega]at y;obtain⟨⟨c0,c1,c2⟩,f0,f1,f2⟩:=uH y r;have o:=Ar (c:=(fg a d (mJ a d (c+8) b).2).1) y;rw[r]at o;have av:(mJ a d (c+8) (b+1)).1=(mJ a d (c+8) b).1++[(fg a d (mJ a d (c+8) b).2).1]:=rfl;rw[<- av]at o;have an:Hid ((mJ a d (c+8) (b+1)).2=(fg a d (mJ a d (c+8) b).2).2):=ak rfl;have H4:=u;have H5:=K.J.trans l;generalize (fg a d (mJ a d (c+8) b).2).1=j at *;have x:=o;go_wp2;go_roundw;(case rel=>refine⟨b+1,by omega,by go_num,x,ak ?_,ak ?_⟩;{rw[an.J];exact H4.kY (by rw[aL _ _ _ _ (by show f≠k.heap.size;omega),aL _ _ _ _ (by show f≠k.heap.size;omega),aL _ _ _ _ (by show f≠k.heap.size;omega)])};exact fI (fI (fI H5 (by show g.heap.size<=k.heap.size;omega) _) (by show g.heap.size<=k.heap.size;omega) _) (by show g.heap.size<=k.heap.size;omega) _);case measure=>simp[intOf];omega}
  rename ω=>wa
  obtain rfl:b=z:=by omega
  have n:=G.J;rw[dQ,eR,cM]at n;have Sq:=vN a d (c+8) b;have a0:=NK a d (c+8) b;have OE:b*2048<=255*2048:=iC _ (by omega);generalize hES:(mJ a d (c+8) b).1=es at *;generalize hP:(mJ a d (c+8) b).2=p at *;have a2:p<=2000000:=by omega
  have al:=n;have D:=ak Sq;have Sy:k.heap.size<wa.heap.size:=(n.lt k.heap.size rfl).2;go_wp21;refine(Ap b _ (by omega)).mono ?_;rintro t w3 ⟨rfl,rfl⟩;have ar:=WG b (by omega);generalize pw b=wd at *;go_wp2_with(at_make;refine eV _ rfl _ _ 247 rfl g.heap.size 263 R _ 3 underlying247 P U V _ _ _ _ i rfl rfl rfl rfl (by rw[T];omega) (by unfold maxLen;omega) (by omega) ?_;intro w4 s m);rw[yH]at s;have ac:=al.kept m (by simp[Value.ownBlock]);have ai:=K.J.trans (m.but (σ f));have am:=L.J.kept m (by simp);go_wp2;go_loopw[37] (λj wr=>∃e:Nat,e<=i/\j=ι κ e/\Hid (Φ wr g.heap.size 263 3 (ψ (σ ⟨k.heap.size,0,ν⟩) b b) b (bW es))/\Hid (Φ wr g.heap.size 263 3 (ψ (σ ⟨wa.heap.size,0,ν⟩) i i) i (bW (kL a es wd p e++List.replicate (i - e) nH)))/\Hid (yx wr f a (p+e*wd))/\Hid (Ψ g wr (σ f))) (λj _=>i - (intOf j).toNat)
  case atStart=>exact⟨0,aB _,rfl,ac,ak (by simpa[kL]using s),ak (by simpa using am),ai⟩
  case round=>
   obtain⟨e,hj,rfl,ad,B,YO,F⟩:=hrel;by_cases Gu:e<i
   . have PA:=aX.2 Gu
     have a1:e*wd<=255*8:=jr (by omega) (by omega);go_wp21;refine(pz f a _ _ wr YO.J w (by omega) (by rw[cm];omega)).mono ?_;rintro t Z ⟨rfl,u,l⟩;rw[cm]at *;have ax:=lV a (p+e*wd) wd;have a6:2 ^ wd<=2 ^ 8:=eU (by omega) ar;have ap:(2:Nat) ^ 8=256:=by decide
     have H:Hid (kL a es wd p (e+1)=kL a es wd p e++[vO es (rd a (p+e*wd) wd)]):=ak rfl;generalize rd a (p+e*wd) wd=q at *;have hq:q<256:=by omega
     have O:=ad.J.kept l (by simp[Value.ownBlock];omega);have v:=B.J.kept l (by simp[Value.ownBlock];omega);rw[show i - e=(i - (e+1))+1 by omega]at v;have r:=xu a es wd p e;have I:Hid (yx Z f a (p+(e+1)*wd)):=ak (by rw[rS,<- iH];exact u);have E:=F.J.trans l;have C:=O;have a5:wa.heap.size<Z.heap.size:=(v.lt wa.heap.size rfl).2;by_cases Q:q<b
     . have ao:=aX.2 Q
       obtain⟨⟨c0,c1,c2⟩,f0,f1,f2⟩:=uH v r;obtain⟨j,N⟩:∃j,es[q]?=σ j:=⟨es[q]'(by rw[D.J];exact Q),af _⟩;obtain⟨d0,d1,d2⟩:=Bg O q j N;rw[gD]at d0 d1 d2;have o:=Ar (c:=j) v;rw[r]at o;have x:=o;have A:Hid (vO es q=j):=ak (by simp[vO,N]);go_wp2;go_roundw
       case rel=>
        refine⟨e+1,by omega,by go_num,ak ?_,ak ?_,ak ?_,ak ?_⟩
        . exact((C.kept (grownBy_setCell _ ⟨wa.heap.size,_,ν⟩ _) (by simp[Value.ownBlock];omega)).kept (grownBy_setCell _ ⟨wa.heap.size,_,ν⟩ _) (by simp[Value.ownBlock];omega)).kept (grownBy_setCell _ ⟨wa.heap.size,_,ν⟩ _) (by simp[Value.ownBlock];omega)
        . rw[H.J,A.J];exact x
        . exact I.J.kY (by rw[aL _ _ _ _ (by show f≠wa.heap.size;omega),aL _ _ _ _ (by show f≠wa.heap.size;omega),aL _ _ _ _ (by show f≠wa.heap.size;omega)])
        . exact fI (fI (fI E (by show g.heap.size<=wa.heap.size;omega) _) (by show g.heap.size<=wa.heap.size;omega) _) (by show g.heap.size<=wa.heap.size;omega) _
       case measure=>simp[intOf];omega
     . have ao:(b:Int)<=(q:Int):=by omega
       have A:Hid (vO es q=nH):=ak (by rw[vO,List.getD,bM (by rw[D.J];omega)];rfl);go_wp2;go_roundw
       case rel=>
        refine⟨e+1,by omega,by go_num,C,ak ?_,I,E⟩;rw[H.J,A.J,<- YP];exact v
       case measure=>simp[intOf];omega
   . obtain rfl:e=i:=by omega
     have n:=B.J;rw[dQ,eR,cM]at n;have UC:=ak n;go_wp2;go_ret;exact⟨_,rfl,by rw[ab.J];exact UC.J,F.J⟩
end S
namespace S
def QL(least:Int)(v:Nat):Int:=wrap64 (least+(v:Int))
theorem agt(a:Int)(b:Nat):dK (QL a b):=by unfold QL wrap64 dK;omega
theorem agu(b:dK r)(a:x<=r):QL x (r - x).toNat=r:=by unfold QL;rw[show x+((r - x).toNat:Int)=r by omega];unfold wrap64 dK at *;omega
def nr(s:Γ)(k least:Int)(width p:Nat):Cl×Nat:=
 if k=1 then(⟨false,0,⟨(rdStr s (p+4) 7 (rd s p 4)).toArray⟩⟩,p+4+rd s p 4*7)else(⟨false,QL least (rd s p width),ByteArray.empty⟩,p+width)
def lD(s:Γ)(ep:Bool)(k least:Int)(width p:Nat):Cl×Nat:=
 if ep then(if tK s p then(⟨true,0,ByteArray.empty⟩,p+1)else nr s k least width (p+1))else nr s k least width p
theorem Cc(b:Γ)(d e:Int)(c a:Nat)(i:c<=127):(nr b d e c a).2<=a+127:=by
 have f:=lV b a 4;have g:(2:Nat) ^ 4=16:=by decide
 unfold nr;split;{show a+4+rd b a 4*7<=_;omega};show a+c<=_;omega
theorem K6(e:Γ)(g:Bool)(c d:Int)(b a:Nat)(f:b<=127):(lD e g c d b a).2<=a+128:=by have i:=Cc e c d b a f;have j:=Cc e c d b (a+1) f;unfold lD;split;{split;{show a+1<=_;omega};omega};omega
def il(s:Γ)(ep:Bool)(k least:Int)(width p:Nat):Nat->Δ Cl×Nat
 |0=>([],p)
 |n+1=>((il s ep k least width p n).1++[(lD s ep k least width (il s ep k least width p n).2).1],(lD s ep k least width (il s ep k least width p n).2).2)
theorem Au(g:Γ)(b:Bool)(d e:Int)(i f a:Nat):(il g b d e i f a).1.length=a:=by induction a with|zero=>rfl|succ a c=>simp[il,c]
theorem UD(g:Γ)(c:Bool)(d e:Int)(b f a:Nat)(i:b<=127):(il g c d e b f a).2<=f+a*128:=by induction a with|zero=>simp[il]|succ a j=>have:=K6 g c d e b (il g c d e b f a).2 i;simp only[il];omega
def tr(s:Γ)(k:Int)(u:Nat):Int×Nat×Nat:=
 if k=1 then(0,0,u)else((fg s 0 u).1.n,rd s (fg s 0 u).2 7,(fg s 0 u).2+7)
def yI(s:Γ)(k:Int)(u n:Nat):Δ Cl:=
 (il s (tK s u) k (tr s k (u+1)).1 (tr s k (u+1)).2.1 (tr s k (u+1)).2.2 n).1
theorem NP(b:Δ Cl)(d:Nat)(a:Cl)(c:Nat)(i:c<3)(e:Value):(bW (b++List.replicate (d+1) a)).set (Λ b*3+c) e=bW b++(([.bool a.bH,ι κ a.n,θ a.s]:Δ Value).set c e++bW (List.replicate d a)):=by have f:bW (b++List.replicate (d+1) a)=bW b++([.bool a.bH,ι κ a.n,θ a.s]++bW (List.replicate d a)):=(by rw[tq,jb];rfl);have g:=uZ b;rw[f,<- g,eO _ _ (by omega),show(bW b).length+c - (bW b).length=c by omega,List.set_append_left _ _ (by simpa using i)]
theorem CT(b:Δ Cl)(d:Nat)(c a:Cl):bW ((b++[a])++List.replicate d c)=bW b++([.bool a.bH,ι κ a.n,θ a.s]++bW (List.replicate d c)):=by rw[cC,tq];rfl
theorem QM{a:Δ Cl}(e:Λ a=t)(d:Φ p w 263 3 (ψ (σ ⟨v,0,ν⟩) n i) n (bW (a++List.replicate (s+1) nH))) :
 (p.setCell ⟨v,t*3,ν⟩ (.bool true)).ownsRow w 263 3 (ψ (σ ⟨v,0,ν⟩) n i) n (bW ((a++[⟨true,0,ByteArray.empty⟩])++List.replicate s nH)):=by have b:=NP a s nH 0 (by omega) (.bool true);rw[e,show t*3+0=t*3 from rfl]at b;rw[CT];have c:=(d.stored (t*3) (.bool true)).1;rw[b]at c;exact c
theorem UE{a:Δ Cl}(f:Λ a=t)(b:Int)(e:Φ p w 263 3 (ψ (σ ⟨v,0,ν⟩) n i) n (bW (a++List.replicate (s+1) nH))) :
 (p.setCell ⟨v,t*3+1,ν⟩ (ι κ b)).ownsRow w 263 3 (ψ (σ ⟨v,0,ν⟩) n i) n (bW ((a++[⟨false,b,ByteArray.empty⟩])++List.replicate s nH)):=by have c:=NP a s nH 1 (by omega) (ι κ b);rw[f]at c;rw[CT];have d:=(e.stored (t*3+1) (ι κ b)).1;rw[c]at d;exact d
theorem UF{a:Δ Cl}(f:Λ a=t)(b:Γ)(e:Φ p w 263 3 (ψ (σ ⟨v,0,ν⟩) n i) n (bW (a++List.replicate (s+1) nH))) :
 (p.setCell ⟨v,t*3+2,ν⟩ (θ b)).ownsRow w 263 3 (ψ (σ ⟨v,0,ν⟩) n i) n (bW ((a++[⟨false,0,b⟩])++List.replicate s nH)):=by have c:=NP a s nH 2 (by omega) (θ b);rw[f]at c;rw[CT];have d:=(e.stored (t*3+2) (θ b)).1;rw[c]at d;exact d
theorem agv(c:Bool)(a:Int)(d:Γ)(b:ω):(Instr.field 263 (χ #[.bool c,ι κ a,θ d]) 1).run prog b=.ok (ι κ a) b:=by kernel_rfl
theorem acD(a:Int)(b:Nat):wrap64 (IntKind.u64.wrap (IntKind.u64.wrap a+(b:Int)))=QL a b:=by unfold QL wrap64;rw[iO,iO];omega
theorem NQ(l:Nat)(a:Γ)(j:Nat)(b:Int)(e:Nat)(r:ω)(Z:yx r l a j)(w:a.size<=140737488351232)(hn:e<=255)(hb:j<=1000000) :
 Calls prog 350 #[χ #[],π (σ ⟨l,0,ν⟩),ι κ b,ι κ (e:Int)] r λu w'=>∃ab,u=τ ab/\Φ w' r.heap.size 263 3 ab e (bW (yI a b j e))/\Ψ r w' (σ l):=by
 have⟨i0,hi,lB,ll,kV⟩:=info_parts Tryz.I8;have ac:=ak (Z.alloc (ξ #[] 343));have EJ:=Z.lt;go_in;go_wp21;refine(F8 l a j _ ac.J w (by omega)).mono ?_;rintro u I ⟨rfl,p,n⟩;have s:Hid (yI a b j e=(il a (tK a j) b (tr a b (j+1)).1 (tr a b (j+1)).2.1 (tr a b (j+1)).2.2 e).1):=ak rfl;generalize tK a j=ep at *;have O:=ak p;have M:=ak ((dG r (ξ #[] 343) (σ l)).trans n);by_cases v:b=1;(case' pos=>have t1:(b != 1)=false:=(by simp[v]);have t2:(b==1)=true:=(by simp[v]);obtain⟨f,d,k,GZ,ad,F,L⟩:∃(f:Int) (d k:Nat),k<=2000000/\d<=127/\yx I l a k/\Hid (yI a b j e=(il a ep b f d k e).1):=⟨0,0,j+1,by omega,by omega,O.J,ak (s.J.trans (by unfold tr;rw[aN v]))⟩;have E:=M.J;generalize I=B at *);(case' neg=>have t1:(b != 1)=true:=(by simp[v]);have t2:(b==1)=false:=(by simp[v]);have hF:tr a b (j+1)=_:=aH v;replace s:=s.J;rw[hF]at s;replace s:=ak s;go_wp21;refine(vM l a (j+1) 0 I O.J w (by omega)).mono ?_;rintro u w9 ⟨rfl,p,n⟩;have uq:=CS a 0 (j+1);generalize (fg a 0 (j+1)).1=c9 at *;generalize (fg a 0 (j+1)).2=p9 at *;have ai:=agv c9.bH c9.n c9.s;go_wp21;refine(pz l a p9 _ w9 p w (by omega) (by rw[show Int.toNat 7=7 from rfl];omega)).mono ?_;rintro u B ⟨rfl,F,C⟩;rw[show Int.toNat 7=7 from rfl]at *;have yk:=lV a p9 7;have ap:(2:Nat) ^ 7=128:=(by decide);generalize rd a p9 7=d at *;have ad:d<=127:=(by omega);have⟨k,aa⟩:=nm (p9+7);have GZ:k<=2000000:=(by omega);rw[<- aa]at F s;have L:=s;have E:=(M.J.trans n).trans C;generalize c9.n=f at *);all_goals
  have K:=ak v;have av:=E.size;go_wp2_with(at_make;refine eV _ rfl _ _ 247 rfl r.heap.size 263 i0 _ 3 underlying247 hi lB ll _ _ _ _ e rfl rfl rfl rfl (by rw[kV];omega) (by unfold maxLen;omega) (by omega) ?_;intro w1 T U);rw[yH]at T;have HG:=E.trans (U.but (σ l));have HR:=F.kept U (by simp);go_wp2;go_loopw[28] (λG wr=>∃c:Nat,c<=e/\G=ι κ c/\Φ wr r.heap.size 263 3 (ψ (σ ⟨B.heap.size,0,ν⟩) e e) e (bW ((il a ep b f d k c).1++List.replicate (e - c) nH))/\yx wr l a (il a ep b f d k c).2/\Ψ r wr (σ l)) (λG _=>e - (intOf G).toNat);case atStart=>exact⟨0,aB _,rfl,by simpa[il]using T,by simpa[il]using HR,HG⟩
  case round=>
   obtain⟨c,GY,rfl,g,o,t⟩:=hrel;by_cases cK:c<e
   .have gY:=aX.2 cK;have an:=UD a ep b f d k c (by omega);have OE:c*128<=255*128:=iC _ (by omega);have KJ:=Au a ep b f d k c;have N:Hid (il a ep b f d k (c+1)=((il a ep b f d k c).1++[(lD a ep b f d (il a ep b f d k c).2).1],(lD a ep b f d (il a ep b f d k c).2).2)):=ak rfl;generalize (il a ep b f d k c).1=A at *;generalize (il a ep b f d k c).2=q at *;have K7:q<=4000000:=(by omega);have x:=ak KJ;rcases(show ep=false\/(ep=true/\tK a q=false)\/(ep=true/\tK a q=true)by cases ep<;>cases tK a q<;>simp)with rfl|⟨rfl,D⟩|⟨rfl,D⟩
    (case' inl=>obtain⟨i,y,m⟩:∃i,Hid (i=q)/\Hid (lD a false b f d q=nr a b f d i):=⟨_,ak rfl,ak rfl⟩;rw[<- y.J]at o);(case' inr.inl|inr.inr=>obtain⟨i,y,m⟩:∃i,Hid (i=q+1)/\Hid (lD a true b f d q=if tK a q then(⟨true,0,ByteArray.empty⟩,i)else nr a b f d i):=⟨_,ak rfl,ak rfl⟩;go_wp21;refine(F8 l a q _ o w (by omega)).mono ?_;rintro u w5 ⟨rfl,p,n⟩;replace g:=g.kept n (by simp[Value.ownBlock];omega);replace t:=t.trans n;replace o:=p;rw[<- y.J]at o;replace m:=m.J;rw[D]at m;replace m:=ak m);all_goals
     have aa:i<=4000001:=(by have:=y.J;omega)
     (try
       have hx:tK a q=true:=by exact D
       rw[show e - c=(e - (c+1))+1 by omega]at g;have⟨⟨P,Q,R⟩,V,X,Y⟩:=uH g x.J;have H:=QM x.J g)
     go_wp21
     (try first
       | (have hx:Hid (b=1):=by exact K
          refine(pz l a i _ _ o w (by omega) (by rw[show Int.toNat 4=4 from rfl];omega)).mono ?_;rintro u w6 ⟨rfl,p,n⟩;rw[show Int.toNat 4=4 from rfl]at *
          replace m:=ak (m.J.trans (aN hx.J));have ar:=lV a i 4;have ao:(2:Nat) ^ 4=16:=by decide
          generalize rd a i 4=z at *;have al:z<=15:=by omega
          go_wp21;refine(Ca l a _ _ _ _ p w (by omega) (by omega) (by omega) (by omega) (by omega)).mono ?_;rintro u w7 ⟨rfl,h6,C⟩;rw[show Int.toNat 7=7 from rfl,cm]at *
          replace g:=(g.kept n (by simp[Value.ownBlock];omega)).kept C (by simp[Value.ownBlock];omega)
          replace t:=(t.trans n).trans C
          replace o:=h6;rw[show e - c=(e - (c+1))+1 by omega]at g;have⟨⟨P,Q,R⟩,V,X,Y⟩:=uH g x.J;have H:=UF x.J ⟨(rdStr a (i+4) 7 z).toArray⟩ g;go_wp2_with fail)
       | (refine(pz l a i _ _ o w (by omega) (by rw[cm];omega)).mono ?_
          rintro u w6 ⟨rfl,p,n⟩;rw[cm]at *
          replace m:=ak (m.J.trans (aH K.J));have am:=Qs a i d;have ag:=ak (acD f (rd a i d));generalize rd a i d=z at *
          replace g:=g.kept n (by simp[Value.ownBlock];omega)
          replace t:=t.trans n
          replace o:=p;rw[show e - c=(e - (c+1))+1 by omega]at g;have⟨⟨P,Q,R⟩,V,X,Y⟩:=uH g x.J;have H:=UE x.J (QL f z) g;go_wp2_with fail))
     go_roundw;(case rel=>(try rw[ag.J]);refine⟨c+1,by omega,by go_num,?_,?_,?_⟩;{rw[N.J,m.J];exact H};{rw[N.J,m.J];exact o.kY (aL _ _ _ _ (by show l≠B.heap.size;omega))};exact fI t (by show r.heap.size<=B.heap.size;omega) _);case measure=>simp[intOf];omega
   obtain rfl:c=e:=(by omega);rw[dQ,eR,cM]at g;go_wp2;go_ret;exact⟨_,rfl,by rw[L.J];exact g,t⟩
end S
namespace S
def wH(p k:Int)(cs:Δ Cl):Bool:=decide (0<=p/\p<=3)&&(decide (0<=k/\k<=2)&&cs.all (okB k))
theorem YQ(i g:Int)(a:Nat)(c:Option Addr)(d:Nat)(b:ω)(f:64<a)(l:a<=140737488355328) :
 Calls prog 186 #[ι κ i,ι κ g,ψ c a d] b λe j=>e=τ (.tuple #[θ ByteArray.empty,ι κ 8])/\b=j:=by have k:=aX.2 f;go_in;go_wp2;go_ret2;exact⟨rfl,rfl⟩
theorem YR(d b:Int)(a:Δ Cl)(f:Option Addr)(g i k:Nat)(c:ω)(l:0<Λ a->f=σ ⟨g,i,ν⟩)(m:kC c g i a)(B:Λ a<=64)
 (n:∀x∈a,x.s.size<=140737488351232) (j:wH d b a=false) :
 Calls prog 186 #[ι κ d,ι κ b,ψ f (Λ a) k] c λe z=>e=τ (.tuple #[θ ByteArray.empty,ι κ 7])/\Below c.heap.size c z:=by
 have A:(Λ a:Int)<=64:=by omega
 have r:=B6 b a f g i k c l m (by omega) n;have u:=wG d c;have w:=I9 b c;have s:=ak j;clear l m n j;go_in;go_wp21;refine u.mono ?_;rintro e p ⟨rfl,rfl⟩;cases hp:decide (0<=d/\d<=3);{clear hp;go_wp2;go_ret2;exact⟨rfl,aj _ _⟩};have v:=ak hp;clear hp;go_wp21;refine w.mono ?_;rintro e p ⟨rfl,rfl⟩;cases hk:decide (0<=b/\b<=2);{clear hk;go_wp2;go_ret2;exact⟨rfl,aj _ _⟩};have t:=ak hk;clear hk;go_wp21;refine r.mono ?_;rintro e p ⟨rfl,y⟩;have o:a.all (okB b)=false:=(by have:=s.J;unfold wH at this;rw[v.J,t.J]at this;simpa using this);rw[o];clear o;go_wp2;go_ret2;exact⟨rfl,y⟩
def kR(s:Γ)(p k:Int)(u n:Nat):Δ Cl:=if p=1 then Hd s k u n else if p=2 then Bh s k u n else if p=3 then yI s k u n else(mJ s k u n).1
def Made(c:Cl):Prop:=dK c.n/\c.s.size<=1000
theorem QN:Made nH:=⟨by simp[nH,dK],by show(0:Nat)<=1000;omega⟩
theorem Ea(a:Γ)(c:Int)(b:Nat):Made (fg a c b).1:=by
 have d:=lV a b 8;have e:(2:Nat) ^ 8=256:=by decide
 unfold fg;split;{exact⟨by simp[dK],by show(0:Nat)<=1000;omega⟩};split;{refine⟨by simp[dK],?_⟩;show(rdStr a (b+8) 8 (rd a b 8 - 1)).toArray.size<=1000;rw[wm,mX];omega};exact⟨Qu (by have:=Qs a (b+8) (rd a b 8 - 1);simpa using this),by show(0:Nat)<=1000;omega⟩
theorem Mu(f:Γ)(e:Int)(g c:Nat):∀b∈(mJ f e g c).1,Made b:=by
 induction c with
 |zero=>intro b a;simp[mJ]at a
 |succ c d=>
  intro b a;simp only[mJ,List.mem_append,List.mem_cons,List.not_mem_nil,or_false]at a;rcases a with a|a
  {exact d b a};rw[a];exact Ea _ _ _
theorem K8(k:Γ)(i:Int)(j:Nat):∀(c:Nat) (e:Δ Cl) (f:Nat),(∀a∈e,Made a)->∀a∈mr k i j c e f,Made a:=by
 intro c;induction c with
 |zero=>intro e f d;exact d
 |succ c g=>
  intro e f d;rw[mr];split
  .apply g;intro a b;rcases bA.1 b with b|b
   {exact d a b};rw[List.eq_of_mem_replicate b];exact Ea _ _ _
  exact d
theorem Ja(f:Γ)(d:Δ Cl)(e g c:Nat)(j:∀b∈d,Made b):∀b∈kL f d e g c,Made b:=by
 induction c with
 |zero=>intro b a;simp[kL]at a
 |succ c k=>
  intro b a;simp only[kL,List.mem_append,List.mem_cons,List.not_mem_nil,or_false]at a;rcases a with a|a
  {exact k b a};rw[a];unfold vO;rw[List.getD];cases hq:d[rd f (g+c*e) e]? with|none=>exact QN|some i=>exact j i (aq hq)
theorem zo(b:Γ)(c d:Int)(e a:Nat):Made (nr b c d e a).1:=by
 have f:=lV b a 4;have g:(2:Nat) ^ 4=16:=by decide
 unfold nr;split;{refine⟨by simp[dK],?_⟩;show(rdStr b (a+4) 7 (rd b a 4)).toArray.size<=1000;rw[wm,mX];omega};exact⟨agt _ _,by show(0:Nat)<=1000;omega⟩
theorem GF(e:Γ)(a:Bool)(b c:Int)(f d:Nat):Made (lD e a b c f d).1:=by unfold lD;split;{split;{exact⟨by simp[dK],by show(0:Nat)<=1000;omega⟩};exact zo _ _ _ _ _};exact zo _ _ _ _ _
theorem NR(j:Γ)(d:Bool)(f g:Int)(k i c:Nat):∀b∈(il j d f g k i c).1,Made b:=by
 induction c with
 |zero=>intro b a;simp[il]at a
 |succ c e=>
  intro b a;simp only[il,List.mem_append,List.mem_cons,List.not_mem_nil,or_false]at a;rcases a with a|a
  {exact e b a};rw[a];exact GF _ _ _ _ _ _
theorem NS(c:Γ)(f b:Int)(d a:Nat):∀e∈kR c f b d a,Made e:=by unfold kR;split;{exact K8 c b a a [] d (by simp)};split;{exact Ja _ _ _ _ _ (Mu _ _ _ _)};split;{exact NR _ _ _ _ _ _ _};exact Mu _ _ _ _
theorem Jb(c:Γ)(e b:Int)(d a:Nat):(kR c e b d a).length=a:=by unfold kR;split;{exact GD c b a a [] d (by simp) (by simp)};split;{exact xu _ _ _ _ _};split;{exact Au _ _ _ _ _ _ _};exact vN _ _ _ _
theorem Tryz.akJ(a:ω):(method 576 341 (χ #[]) (kK prog 324 0)).run prog a=.ok (337,χ #[]) a:=by kernel_rfl
theorem Tryz.akK(a:ω):(method 576 342 (χ #[]) (kK prog 324 0)).run prog a=.ok (347,χ #[]) a:=by kernel_rfl
theorem Tryz.akL(a:ω):(method 576 343 (χ #[]) (kK prog 324 0)).run prog a=.ok (350,χ #[]) a:=by kernel_rfl
theorem Tryz.akM(a:ω):(method 576 344 (χ #[]) (kK prog 324 0)).run prog a=.ok (355,χ #[]) a:=by kernel_rfl
def Good(s:Γ):Prop:=
 rd s 16 8<=64/\wH (rd s 0 8:Int) (rd s 8 8:Int) (kR s (rd s 0 8:Int) (rd s 8 8:Int) 24 (rd s 16 8))=true/\∃bs,Lays bs (qv (rd s 0 8:Int) (rd s 8 8:Int) (kR s (rd s 0 8:Int) (rd s 8 8:Int) 24 (rd s 16 8)))/\strOf bs=s
end S
namespace S
theorem UG{bs:Δ Nat}(d:∀c∈bs,c<256)(b:Nat):D1 (strOf bs) b=bs.getD b 0:=by unfold D1 strOf;by_cases a:b<Λ bs;{simp only[List.getD,List.getElem?_map,List.getElem?_eq_getElem a,Option.map_some,Option.getD_some];exact UInt8.toNat_ofNat_of_lt' (d _ (ej a))};simp[List.getD,List.getElem?_eq_none (Nat.le_of_not_lt a)]
theorem UH(bs:Δ Nat):(strOf bs).size=Λ bs:=by show((bs.map UInt8.ofNat).toArray).size=_;simp
theorem plain_round{s:Γ}{k:Int}{u:Nat}{cs:Δ Cl}(g:∀d∈cs,zm k d) :
 ∀a,a<=Λ cs->At s u (jo k (cs.take a))->mJ s k u a=(cs.take a,u+(jo k (cs.take a)).length):=by intro a;induction a with|zero=>(intro _ _;simp[mJ,jo])|succ a i=>intro j b;have c:cs[a]?=σ cs[a]:=af (by omega);rw[iG c,tg,At.append]at b;have e:=i (by omega) b.1;have f:=Nx (g _ (ej (show a<Λ cs by omega))) b.2;rw[mJ,e,iG c,tg];simp only[f,List.length_append];rw[iH]
theorem agw(a:Cl)(d:Δ Cl):(a::d).take (fr (a::d))=List.replicate (fr (a::d)) a:=by have f:∀c:Δ Cl,c.take (c.takeWhile λb=>b.beq a).length=List.replicate (c.takeWhile λb=>b.beq a).length a:=(by intro c;induction c with|nil=>simp|cons b c g=>rw[gS];cases hb:b.beq a;{simp};have e:=(Cl.beq_iff b a).1 hb;subst e;simp only[if_true,List.length_cons,List.take_succ_cons,List.replicate_succ,g]);exact f (a::d)
theorem UI{s:Γ}{k:Int}{n:Nat}:∀(c:Nat) (d a:Δ Cl) (e:Nat),(∀b∈a,zm k b)->Λ d+Λ a=n->Λ a<=c->n<=255->At s e (pA k a)->mr s k n c d e=d++a:=by intro c;induction c with|zero=>(intro d a e _ _ v _ _;have:a=[]:=ld (by omega);subst this;simp[mr])|succ c w=>intro d a e i u v j f;cases a with|nil=>(rw[Cb _ _ _ _ _ _ (by simp at u;omega)];simp)|cons b a=>have z:=IJ (cs:=b::a) (by simp);have x:=WC (b::a);have y:(b::a).length=Λ a+1:=(by simp);rw[yz,At.append,At.append,cA]at f;obtain⟨⟨p,r⟩,g⟩:=f;have m:=mW p (by omega) (by omega);have o:=Nx (i b (by simp)) r;rw[au,cA,<- iH]at g;rw[mr,aN (by omega),m,o];simp only;rw[show fr (b::a) - 1+1=fr (b::a)by omega,jv (by omega),<- agw];rw[w _ ((b::a).drop (fr (b::a))) _ (λl t=>i l (mZ t)) ?_ ?_ j g];{rw[cC,kD]};{rw[au,bZ,dB];omega};rw[dB];omega
theorem NT{s:Γ}{es cs:Δ Cl}{u:Nat}(f:∀e∈cs,known es e=true)(g:pw (Λ es)<=64) :
 ∀a,a<=Λ cs->At s u (lW es (cs.take a))->kL s es (pw (Λ es)) u a=cs.take a:=by intro a;induction a with|zero=>(intro _ _;simp[kL])|succ a i=>intro j b;have d:cs[a]?=σ cs[a]:=af (by omega);rw[iG d,Ao,At.append,wF,bZ,jv (by omega)]at b;have c:=f _ (ej (show a<Λ cs by omega));rw[kL,i (by omega) b.1,iG d,mW b.2 g (aoI (D7 c)),vO,List.getD,YI c];rfl
theorem UJ{a:Δ Cl}(l:∀b∈a,zm x b)(o:Λ a<=64)(c:At m w (yF x a)):Bh m x w (Λ a)=a:=by have n:=D6 a;unfold yF at c;rw[At.append,At.append,cA,au,cA]at c;obtain⟨⟨i,j⟩,k⟩:=c;have g:=mW i (by omega) (by omega);have e:=plain_round (s:=m) (k:=x) (u:=w+8) (cs:=pT a) (λb d=>l b (I3 d)) (pT a).length (ae _) (by rw[aQ (ae _)];exact j);rw[aQ (ae _)]at e;unfold Bh;rw[g,e];have p:=WG (pT a).length (by omega);have f:=NT (s:=m) (es:=pT a) (cs:=a) (u:=w+8+(jo x (pT a)).length) (λb d=>I4 d) (by omega) (Λ a) (ae _) (by rw[aQ (ae _),iH];exact k);rw[aQ (ae _)]at f;exact f
theorem Cd{s:Γ}{p:Nat}{a:Cl}(b:zm x a)(f:a.bH=false)(o:w<=64)(n:r<=a.n)(e:(a.n - r).toNat<2 ^ w)
 (c:At s p (if x=1 then eu a.s.size 4++kB 7 a.s.data.toList else eu (a.n - r).toNat w)) :
 nr s x r w p=(a,p+(if x=1 then eu a.s.size 4++kB 7 a.s.data.toList else eu (a.n - r).toNat w).length):=by
 obtain⟨t,b⟩:=b;rw[aH (by rw[f];simp)]at b;unfold nr;by_cases d:x=1
 .rw[aN d]at c ⊢;rw[aN d];rw[aH (by omega),aN d]at b;rw[At.append,cA]at c;have m:=mW c.1 (by omega) (by have:=b.2.1;omega);rw[m];have i:=F4 (s:=s) (u:=p+4) (wd:=7) a.s.data.toList (by omega) (λl e=>by have:=(b.2.2 l e).2.1;omega) a.s.size (by rw[jC];omega)
   (by rw[aQ (by rw[jC];omega)];exact c.2)
  rw[aQ (by rw[jC];omega)]at i;rw[i];simp only[List.length_append,cA,mO,jC];refine xQ (Cl.ext' f.symm b.1.symm rfl) (by show p+4+a.s.size*7=_;omega)
 rw[aH d]at c ⊢;rw[aH d];rw[mW c o e,agu t n,cA];have k:a.s=ByteArray.empty:=(by by_cases g:x=0;{rw[aN g]at b;exact b};rw[aH g,aH d]at b;by_cases j:x=2;{rw[aN j]at b;exact b.1};rw[aH j]at b;exact b.elim);exact xQ (Cl.ext' f.symm rfl k.symm) rfl
theorem K9{b:Cl}(g:zm x b)(l:u=false->b.bH=false)(k:w<=64)(d:b.bH=false->r<=b.n/\(b.n - r).toNat<2 ^ w)
 (c:At m v (np u x r w b)):lD m u x r w v=(b,v+(np u x r w b).length):=by unfold np at c ⊢;unfold lD;cases u;{have a:=l rfl;have f:¬b.bH=true:=(by rw[a];simp);simp only[Bool.false_eq_true,if_false,List.nil_append]at c ⊢;rw[aH f]at c ⊢;exact Cd g a k (d a).1 (d a).2 c};simp only[if_true]at c ⊢;rw[At.append]at c;have i:tK m v=b.bH:=(by have:=c.1 0 (by simp);simpa using this);cases a:b.bH;{have f:¬b.bH=true:=(by rw[a];simp);have j:=c.2;rw[aH f]at j;rw[i,a];simp only[Bool.false_eq_true,if_false];have:=Cd (s:=m) (p:=v+1) g a k (d a).1 (d a).2 (by simpa using j);rw[this,au];simp only[List.length_cons,List.length_nil];rw[iH]};rw[i,a];have e:=g.2;rw[aN a]at e;simp only[if_true,List.append_nil,List.length_cons,List.length_nil];exact xQ (Cl.ext' a.symm e.1.symm e.2.symm) rfl
theorem Jc{s:Γ}{p:Nat}{b:Δ Cl}(k:∀c∈b,zm x c)(m:u=false->∀c∈b,c.bH=false)(n:w<=64)
 (l:∀c∈b,c.bH=false->r<=c.n/\(c.n - r).toNat<2 ^ w) :
 ∀a,a<=Λ b->At s p (fR u x r w (b.take a))->il s u x r w p a=(b.take a,p+(fR u x r w (b.take a)).length):=by intro a;induction a with|zero=>(intro _ _;simp[il,fR])|succ a o=>intro t d;have f:b[a]?=σ b[a]:=af (by omega);have e:=ej (show a<Λ b by omega);rw[iG f,sL,At.append]at d;have i:=o (by omega) d.1;have j:=K9 (k _ e) (λg=>m g _ e) n (l _ e) d.2;rw[il,i,iG f,sL];simp only[j,List.length_append];rw[iH]
theorem UK{b:Δ Cl}(g:∀a∈b,zm x a)(i:At m w (yG x b)):yI m x w (Λ b)=b:=by
 have s:=Bf (λa j=>(g a j).1);have F:=uY s;have u:=Hb s;have G:=nT u;unfold yG at i;rw[At.append,At.append]at i;obtain⟨⟨C,e⟩,d⟩:=i;have B:tK m w=b.any λa=>a.bH:=(by have:=C 0 (by simp);simpa using this);have D:tr m x (w+1)=if x=1 then(0,0,w+1)else(leastOf (eI b),bitLen (oJ (eI b)),w+1+(qG (leastOf (eI b))++eu (bitLen (oJ (eI b))) 7).length):=by
  unfold tr;by_cases c:x=1;{rw[aN c,aN c]};rw[aH c,aH c];rw[aH c]at e;simp only[List.length_cons,List.length_nil,Nat.zero_add]at e;rw[At.append]at e;have y:zm 0 ⟨false,leastOf (eI b),ByteArray.empty⟩:=⟨F,by simp⟩;have l:lM 0 ⟨false,leastOf (eI b),ByteArray.empty⟩=qG (leastOf (eI b)):=(by simp[lM]);have n:=Nx (s:=m) (u:=w+1) y (by rw[l];exact e.1);rw[l]at n;rw[n];simp only;rw[mW e.2 (by omega) (by have:(2:Nat) ^ 7=128:=(by decide);omega),au,cA,iH (w+1)]
 have p:(b.any λa=>a.bH)=false->∀a∈b,a.bH=false:=(by intro j a f;have:=jh.1 j a f;simpa using this);have E:∀a∈b,a.bH=false->leastOf (eI b)<=a.n/\(a.n - leastOf (eI b)).toNat<2 ^ bitLen (oJ (eI b)):=(by intro a f k;have o:=QK f k;have A:=IX o;have H:=Uu o;refine⟨A,bY ?_ (Fe _)⟩;unfold oJ;omega);unfold yI;rw[B,D];by_cases c:x=1;{rw[aN c];rw[aN c]at d;simp only[List.append_nil,List.length_cons,List.length_nil,Nat.zero_add]at d;have z:∀r t,fR (b.any λa=>a.bH) x r t b=fR (b.any λa=>a.bH) x 0 0 b:=(by intro r t;unfold fR;congr 1;funext a;unfold np;simp only[if_pos c]);rw[z]at d;have v:∀a∈b,a.bH=false->(0:Int)<=a.n/\(a.n - 0).toNat<2 ^ 0:=(by intro a f k;have:=(g a f).2;rw[aH (by rw[k];simp),aH (by omega),aN c]at this;rw[this.1];simp);have:=Jc (s:=m) (p:=w+1) g p (by omega) v (Λ b) (ae _) (by rw[aQ (ae _)];exact d);rw[aQ (ae _)]at this;simp only[this]};rw[aH c];rw[aH c]at d;rw[au,cw,gK,gD,<- iH]at d;have:=Jc (s:=m) (p:=w+1+(qG (leastOf (eI b))++eu (bitLen (oJ (eI b))) 7).length) g p G E (Λ b) (ae _) (by rw[aQ (ae _)];exact d);rw[aQ (ae _)]at this;simp only[this]
theorem UL{bs:Δ Nat}{a:Δ Cl}(f:Lays bs (qv x r a))(B:0<=x)(C:x<=3)(A:0<=r)(D:r<=2)(m:Λ a<=64)(z:∀c∈a,dK c.n)(n:a.all (okB r)=true) :
 ((rd (strOf bs) 0 8:Nat):Int)=x/\((rd (strOf bs) 8 8:Nat):Int)=r/\rd (strOf bs) 16 8=Λ a/\kR (strOf bs) x r 24 (Λ a)=a/\Good (strOf bs):=by
 have e:∀c∈a,zm r c:=λc l=>Am (z c l) (gQ.1 n c l);have d:=f.at (strOf bs) (UG f.small);unfold qv at d;rw[At.append,At.append,At.append]at d;simp only[List.length_append,cA,Nat.zero_add]at d;obtain⟨⟨⟨v,w⟩,y⟩,b⟩:=d;have t:=mW v (by omega) (by omega);have u:=mW w (by omega) (by omega);have j:=mW y (by omega) (by omega);have g:((rd (strOf bs) 0 8:Nat):Int)=x:=by rw[t];omega
 have i:((rd (strOf bs) 8 8:Nat):Int)=r:=by rw[u];omega
 have k:kR (strOf bs) x r 24 (Λ a)=a:=(by unfold kR;unfold body at b;by_cases o:x=1;{rw[aN o]at b ⊢;have:=UI (s:=strOf bs) (k:=r) (n:=Λ a) (Λ a) [] a 24 e (by simp) (ae _) (by omega) b;exact this};rw[aH o]at b ⊢;by_cases p:x=2;{rw[aN p]at b ⊢;exact UJ e m b};rw[aH p]at b ⊢;by_cases s:x=3;{rw[aN s]at b ⊢;exact UK e b};rw[aH s]at b ⊢;have:=plain_round (s:=strOf bs) (k:=r) (u:=24) e (Λ a) (ae _) (by rw[aQ (ae _)];exact b);rw[aQ (ae _)]at this;rw[this]);refine⟨g,i,j,k,?_⟩;unfold Good;rw[g,i,j,k];refine⟨m,?_,bs,f,rfl⟩;unfold wH;rw[n];simp;omega
end S
namespace S
theorem YS{d:Option Addr}{a:Δ Cl}(c:Φ p w 263 3 (ψ d v n) v (bW a)):∃b,(0<Λ a->d=σ ⟨b,0,ν⟩)/\kC p b 0 a:=by
 have l:Λ a=v:=by have:=c.1;rw[uZ]at this;omega
 by_cases i:0<v;{have⟨j,o,e,g,_⟩:=ti c;obtain⟨b,rfl⟩:=g i;simp only[Value.slice.injEq]at e;obtain⟨rfl,-,rfl⟩:=e;exact⟨b,λ_=>rfl,Bg c⟩};refine⟨0,λc=>by omega,λm k f=>?_⟩;have:=(ah.1 f).1;omega
theorem UM(a:Γ)(c:ω)(p:a.size<=140737488351232) :
 Calls prog 160 #[θ a] c λe w'=>((Good a/\∃x,e=τ (.tuple #[ι κ (rd a 8 8:Int),x,ι κ 0])/\Φ w' c.heap.size 263 3 x (rd a 16 8) (bW (kR a (rd a 0 8:Int) (rd a 8 8:Int) 24 (rd a 16 8))))\/
  (¬Good a/\e=τ (.tuple #[ι κ 0,ψ ν 0 0,ι κ 2])))/\Below c.heap.size c w':=by
 have K:=ak (show Good a↔(rd a 16 8<=64/\wH (rd a 0 8:Int) (rd a 8 8:Int) (kR a (rd a 0 8:Int) (rd a 8 8:Int) 24 (rd a 16 8))=true/\∃bs,Lays bs (qv (rd a 0 8:Int) (rd a 8 8:Int) (kR a (rd a 0 8:Int) (rd a 8 8:Int) 24 (rd a 16 8)))/\strOf bs=a)from Iff.rfl);have ap:=lV a 0 8;have an:=lV a 8 8;have ao:=lV a 16 8;have am:(2:Nat) ^ 8=256:=by decide
 have ar:yx (c.alloc (ξ #[θ a,ι κ 0] 320)) c.heap.size a 0:=
  ⟨by rw[dj _ _ _ _ rfl];rfl,by rw[dj _ _ _ _ rfl];rfl,jY _ _ _ _ rfl⟩
 go_in;go_wp21;refine(pz c.heap.size a 0 _ _ ar p (by omega) (by rw[show Int.toNat 8=8 from rfl];omega)).mono ?_;rintro e w2 ⟨rfl,g,k⟩;rw[show Int.toNat 8=8 from rfl]at *;have SP:=g;have aa:=(dG c (ξ #[θ a,ι κ 0] 320) (σ c.heap.size)).trans k;clear g k;generalize hPN:rd a 0 8=d at *;have Yb:=ak hPN;clear hPN;have aT:d<256:=by omega
 go_wp21;refine(pz c.heap.size a (0+8) _ _ SP p (by omega) (by rw[show Int.toNat 8=8 from rfl];omega)).mono ?_;rintro e w3 ⟨rfl,g,k⟩;rw[show Int.toNat 8=8 from rfl,show 0+8=8 from rfl]at *;have KI:=g;have ab:=aa.trans k;clear g k;generalize hKN:rd a 8 8=b at *;have Y:=ak hKN;clear hKN;have A8:b<256:=by omega
 go_wp21;refine(pz c.heap.size a (8+8) _ _ KI p (by omega) (by rw[show Int.toNat 8=8 from rfl];omega)).mono ?_;rintro e y ⟨rfl,g,k⟩;rw[show Int.toNat 8=8 from rfl,show 8+8=16 from rfl,show 16+8=24 from rfl]at *;have X:=ab.trans k;clear k;generalize hNN:rd a 16 8=n at *;have ac:=ak hNN;clear hNN;have O:n<=255:=by omega
 clear ap an ao am;go_wp21;refine(D9 _ y).mono ?_;rintro e i ⟨rfl,rfl⟩;by_cases u:(d:Int)=1;(case' pos=>rw[aN u];have B:=ak u;clear u;have l:=Tryz.akJ;simp[kK,underlying324]at l;go_wp21;refine(NL c.heap.size a 24 (b:Int) n y g p O (by omega)).mono ?_;rintro e i ⟨x,rfl,r,F⟩;have E:Hd a (b:Int) 24 n=kR a (d:Int) (b:Int) 24 n:=by unfold kR;rw[aN B.J]);(case' neg=>rw[aH u];have B:=ak u;clear u;by_cases v:(d:Int)=2;(case' pos=>rw[aN v];have L:=ak v;clear v;have l:=Tryz.akK;simp[kK,underlying324]at l;go_wp21;refine(NM c.heap.size a 24 (b:Int) n y g p O (by omega)).mono ?_;rintro e i ⟨x,rfl,r,F⟩;have E:Bh a (b:Int) 24 n=kR a (d:Int) (b:Int) 24 n:=by unfold kR;rw[aH B.J,aN L.J]);case' neg=>rw[aH v];have L:=ak v;clear v;by_cases w:(d:Int)=3;(case' pos=>rw[aN w];have T:=ak w;clear w;have l:=Tryz.akL;simp[kK,underlying324]at l;go_wp21;refine(NQ c.heap.size a 24 (b:Int) n y g p O (by omega)).mono ?_;rintro e i ⟨x,rfl,r,F⟩;have E:yI a (b:Int) 24 n=kR a (d:Int) (b:Int) 24 n:=by unfold kR;rw[aH B.J,aH L.J,aN T.J]);case' neg=>rw[aH w];have T:=ak w;clear w;have l:=Tryz.akM;simp[kK,underlying324]at l;go_wp21;refine(K5 c.heap.size a 24 (b:Int) n y g p O (by omega)).mono ?_;rintro e i ⟨x,rfl,r,F⟩;have E:(mJ a (b:Int) 24 n).1=kR a (d:Int) (b:Int) 24 n:=by unfold kR;rw[aH B.J,aH L.J,aH T.J]);all_goals
  rw[E]at r;clear l E;have o:=X.trans F;have C:=NS a (d:Int) (b:Int) 24 n;have KJ:=Jb a (d:Int) (b:Int) 24 n;generalize hCS:kR a (d:Int) (b:Int) 24 n=cs at *;have Dm:=ak hCS;clear hCS;have qY:c.heap.size<=i.heap.size:=o.size;have U:Below c.heap.size c i:=⟨o.os,o.tape,o.output,o.size,λax hj=>o.block ax hj (by simp;omega)⟩;have P:=jR r (show c.heap.size<=y.heap.size from X.size);obtain⟨R,M,rfl,QJ,av⟩:=ti P;have⟨Z,D,H⟩:=YS P;subst KJ;have CQ:=P;clear r P o F QJ;have Q:∀m∈cs,dK m.n:=λm f=>(C m f).1;have G:∀m∈cs,m.s.size<=140737488351232:=λm f=>by have:=(C m f).2;omega
  by_cases N:Λ cs<=64
  .cases oI:wH (d:Int) (b:Int) cs;{have z:Hid (¬Good a):=ak (λf=>by have:=(K.J.1 f).2.1;rw[oI]at this;cases this);have A:=YR (d:Int) (b:Int) cs R Z 0 M i D H N G oI;clear oI H D C Q G;go_wp21;refine A.mono ?_;rintro e w6 ⟨rfl,s⟩;have I:=U.trans (s.mono qY);clear s;go_wp2;go_ret3;exact⟨.inr ⟨z.J,rfl⟩,I⟩}
   have j:=oI;unfold wH at j;simp only[Bool.and_eq_true,decide_eq_true_eq]at j;have A:=Ms (d:Int) (b:Int) cs R Z 0 M i D H av N Q G j.1.1 j.1.2 j.2.1.1 j.2.1.2 j.2.2;have ag:=ak oI;clear oI j H D C Q G;go_wp21;refine A.mono ?_;rintro e w6 ⟨⟨bs,V,rfl⟩,s⟩;have I:=U.trans (s.mono qY);have ad:=CQ.kept (nG s) (by cases(Value.slice R (Λ cs) M).ownBlock<;>simp);clear s;by_cases t:strOf bs=a;{have al:Hid (Good a):=ak (K.J.2 ⟨N,ag.J,bs,V,t⟩);have ai:((strOf bs).toList==a.toList)=true:=(by rw[t];simp);clear t;go_wp2;go_ret3;refine⟨.inl ⟨al.J,_,by rw[Y.J];rfl,?_⟩,I⟩;rw[Yb.J,Y.J,ac.J,Dm.J];exact ad}
   have z:Hid (¬Good a):=ak (λf=>by
    have⟨aC,SH,xU⟩:=(K.J.1 f).2.2;exact t (by rw[V.unique SH];exact xU))
   have ai:((strOf bs).toList==a.toList)=false:=(by rw[aY];intro f;rw[ja,ja]at f;exact t (by cases hx:strOf bs;cases hy:a;rw[hx,hy]at f;congr 1;exact pF.1 f));clear t;go_wp2;go_ret3;exact⟨.inr ⟨z.J,rfl⟩,I⟩
  have z:Hid (¬Good a):=ak (λf=>N (K.J.1 f).1);have A:=YQ (d:Int) (b:Int) (Λ cs) R M i (by omega) (by omega);clear H D C Q G;go_wp21;refine A.mono ?_;rintro e w6 ⟨rfl,rfl⟩;go_wp2;go_ret3;exact⟨.inr ⟨z.J,rfl⟩,U⟩
end S
