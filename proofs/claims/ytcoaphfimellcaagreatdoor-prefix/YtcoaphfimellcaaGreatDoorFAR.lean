import Derived.Test.YtcoaphfimellcaaGreatDoorFAQ
import Derived.Test.YtcoaphfimellcaaGreatDoorFAP
import Derived.Maps.RangeWalk
set_option maxHeartbeats 0
set_option maxRecDepth 100000
namespace Go.Proofs.YtcoaphfimellcaaGreatDoor
open Go.RowKit
open _root_.Go.Proofs.Tryz
open Option renaming some→σ,none→ν
open Go.IntKind renaming i64→κ
open Go.Ending renaming returned→τ
open Go.Obj renaming cells→ξ
open Go renaming World→ω
open Go.Value renaming int→ι,string→θ,slice→ψ,pointer→π,agg→χ
variable{w v n i t s:Nat}{p:ω}{m:ByteArray}{x r:Int}{l:List Nat}{u:Bool}
namespace S
theorem xY.kept{w':ω}{row:Option Nat}(a:xY p w m v)(b:p.grownBy w' row)(c:σ w≠row):xY w' w m v:=a.kG (b.block w a.lt c)
theorem Uw(a:Nat)(e:a<18446744073709551616)(d:a % 2=1):wrap64 (bits BinOp.xor IntKind.u64 IntKind.u64.max ((a:Int) / 2))=qJ a:=by
 have c:IntKind.u64.max=((18446744073709551615:Nat):Int):=by decide
 have b:(a:Int) / 2=((a / 2:Nat):Int):=by omega
 rw[b,c,u64_xor_nat _ _ (by omega) (by omega),Qu _ (by omega)];unfold qJ;rw[aF d];unfold wrap64;omega
theorem Ux(a:Nat)(f:ω)(d:a<18446744073709551616):Calls prog 332 #[ι .u64 (a:Int)] f λg j=>g=τ (ι κ (qJ a))/\f=j:=by have e:bits BinOp.and IntKind.u64 (a:Int) 1=((a % 2:Nat):Int):=(by have:=u64_and_nat a 1 d (by omega);rwa[vm]at this);by_cases c:a % 2=1;{have i:(bits BinOp.and IntKind.u64 (a:Int) 1==1)=true:=(by rw[e,c];rfl);have b:=au (Uw a d c);go_in;go_wp2;go_ret;exact⟨a7 Ending.returned (a7 (Value.int IntKind.i64) b.J),rfl⟩};have i:(bits BinOp.and IntKind.u64 (a:Int) 1==1)=false:=(by rw[e,show a % 2=0 by omega];rfl);have b:Hid ((a:Int) / 2=qJ a):=au (by unfold qJ;rw[aE c];omega);go_in;go_wp2;go_ret;exact⟨a7 Ending.returned (a7 (Value.int IntKind.i64) b.J),rfl⟩
theorem FY(c:Nat)(a:ByteArray)(b:Nat)(d:ω)(m:xY d c a b)(o:a.size<=140737488351232)(n:b+1<=1099511627776) :
 Calls prog 325 #[π (σ (Ad c 0))] d λf j=>f=τ (.bool (sM a b))/\xY j c a (b+1)/\d.grownBy j (σ c):=by
 have l:rd a b 1=(sM a b).toNat:=by simp[rd]
 have k:=au l;go_in;go_wp2_with fail;refine(oR c a b _ d m o (by omega) (by rw[show Int.toNat 1=1 from rfl];exact n)).mono ?_;rintro f p ⟨rfl,g,i⟩;rw[show Int.toNat 1=1 from rfl]at *;rw[k.J];cases hsb:sM a b;{have e:=au hsb;go_wp2;go_ret;exact⟨by rw[e.J];rfl,g,i⟩};have e:=au hsb;go_wp2;go_ret;exact⟨by rw[e.J];rfl,g,i⟩
theorem acP{bs:List UInt8}(b:p.ownsRow w 5 1 (ψ (σ (Ad v 0)) bs.length n) bs.length (Ez (bs.map UInt8.toNat))):(convert 68 9 (ψ (σ (Ad v 0)) bs.length n)).run prog p=.ok (θ ⟨bs.toArray⟩) p:=by rw[pP p 68 9 5 _ _ _ underlying68 underlying5 underlying9];have c:(loadCells (Ad v 0) bs.length).run prog p=.ok (((bs.map UInt8.toNat).map (λ(d:Nat)=>(d:Int))).map (Value.int .u8)).toArray p:=(by have:=vq (P:=prog) p (Ad v 0) (Ez (bs.map UInt8.toNat)) (b.cells rfl);rw[show(Ez (bs.map UInt8.toNat)).length=bs.length by simp[Ez]]at this;rw[this];simp[Ez,Function.comp_def]);rw[vX p _ _ _ _ c,fold_push];have a:(bs.map UInt8.toNat).map UInt8.ofNat=bs:=(by rw[gI];exact(fJ (λe _=>UInt8.ofNat_toNat)).trans (List.map_id _));rw[a];simp
theorem fm{c:ω}{row:Option Nat}(a:p.grownBy c row){b:Addr}(i:p.heap.size<=b.block)(e:Value):p.grownBy (c.setCell b e) row:=
 ⟨a.os,a.tape,a.output,by simpa[World.setCell]using a.size,λd f g=>(az c b e d (by omega)).trans (a.block d f g)⟩
theorem acQ(a:List Nat)(b:Nat)(c:Nat):(Ez (a++List.replicate (b+1) 0)).set a.length (ι .u8 (c:Int))=Ez ((a++[c])++List.replicate b 0):=by simp[Ez,List.replicate_succ]
theorem Zb(a:Nat):(madeCells (Value.int .u8 0).cells (a*1)).toList=Ez (List.replicate a 0):=by
 have:∀b:Nat,[Value.int .u8 0][b % 1]?.getD default=Value.int .u8 0:=λb=>by rw[Nat.mod_one];rfl
 simp[madeCells,Ez,Value.cells,this,List.map_const']
theorem B3(f:Nat)(e:ByteArray)(d:Nat)(b c:Int)(g:ω)(i:xY g f e d)(F:e.size<=140737488351232)(B:0<=b)(P:b<=1000)(C:0<=c)(Q:c<=64)(R:d<=549755813888) :
 Calls prog 331 #[π (σ (Ad f 0)),ι κ b,ι κ c] g λj w=>j=τ (θ ⟨(rdStr e d c.toNat b.toNat).toArray⟩)/\xY w f e (d+b.toNat*c.toNat)/\g.grownBy w (σ f):=by
 obtain⟨b,rfl⟩:=jm B;obtain⟨c,rfl⟩:=jm C;rw[bQ,bQ];obtain⟨H,E,I,K,L⟩:=info_parts Tryz.ajC;have m:=i;go_in;go_wp2_with(at_make;refine eI _ rfl _ _ 68 rfl g.heap.size 5 H (ι .u8 0) 1 underlying68 E I K _ _ _ _ b rfl rfl rfl rfl (by rw[L];omega) (by unfold maxLen;omega) (ae _) ?_;intro w1 r s);rw[Zb]at r;have z:=m.kept s (by simp);have x:=s.but (σ f);have X:f<g.heap.size:=m.lt;go_wp2;go_loopw[13] (λk wr=>∃a:Nat,a<=b/\k=ι κ a/\Hid (wr.ownsRow g.heap.size 5 1 (ψ (σ (Ad g.heap.size 0)) b b) b (Ez ((rdStr e d c a).map UInt8.toNat++List.replicate (b - a) 0)))/\Hid (xY wr f e (d+a*c))/\Hid (g.grownBy wr (σ f))) (λk _=>b - (intOf k).toNat);case atStart=>exact⟨0,aI _,rfl,au (by simpa[rdStr]using r),au (by simpa using z),x⟩
 case round=>obtain⟨a,V,rfl,n,p,o⟩:=hrel;by_cases O:a<b;{have Z:(a:Int)<(b:Int):=(by omega);have W:a*c<=1000*64:=lL (by omega) (by omega);go_wp2_with fail;refine(oR f e (d+a*c) _ wr p.J F (by omega) (by rw[bQ];omega)).mono ?_;rintro j M ⟨rfl,D,t⟩;rw[bQ]at *;have l:=n.J.kept t (by simp[Value.ownBlock];omega);have N:(Ez ((rdStr e d c a).map UInt8.toNat++List.replicate (b - a) 0)).length=b:=(by simp[Ez,ml];omega);have T:M.cell? (Ad g.heap.size a)=σ (ι .u8 0):=(by rw[l.cellAt a (by omega),Xb (by simp[ml];omega)];congr 2;simp[List.getD,ml,show 0<b - a by omega]);have U:=l.frozenAt a;have Y:=Qr e (d+a*c) c;generalize hV:rd e (d+a*c) c=v at *;have y:=au hV;go_wp2_with fail;go_roundw;(case rel=>refine⟨a+1,by omega,by go_num,au ?_,au ?_,au ?_⟩;{have i:=(l.stored a (ι .u8 ((v % 256:Nat):Int))).1;have j:=acQ ((rdStr e d c a).map UInt8.toNat) (b - (a+1)) (v % 256);rw[aR,ml,show b - (a+1)+1=b - a by omega]at j;rw[j]at i;have A:(rdStr e d c (a+1)).map UInt8.toNat=(rdStr e d c a).map UInt8.toNat++[v % 256]:=(by rw[rdStr,cZ,y.J];congr 1;simp only[List.map_cons,List.map_nil];rw[UInt8.toNat_ofNat_of_lt' (by have:=Nat.mod_lt v (show 0<256 by omega);exact this)]);rw[A];exact i};{have i:=D;rw[show d+(a+1)*c=d+a*c+c by rw[q6];omega];exact i.kG (az _ _ _ _ (by show f≠g.heap.size;omega))};exact fm (o.J.trans t) (ae _) _);case measure=>simp[intOf];omega};obtain rfl:a=b:=(by omega);have u:=n.J;rw[du,eo,bX]at u;have G:=acP (bs:=rdStr e d c a) (by rw[ml];exact u);rw[ml]at G;go_wp2;go_ret;exact⟨rfl,p.J,o.J⟩
theorem vH(e:Nat)(c:ByteArray)(a:Nat)(d:Int)(b:ω)(y:xY b e c a)(s:c.size<=140737488351232)(T:a<=274877906944) :
 Calls prog 328 #[π (σ (Ad e 0)),ι κ d] b λn F=>n=τ (χ #[.bool (eL c d a).1.null,ι κ (eL c d a).1.n,θ (eL c d a).1.s])/\xY F e c (eL c d a).2/\b.grownBy F (σ e):=by
 have I:=y.alloc (si false 0 ByteArray.empty);have O:=y.lt;have U:=lC c a 8;go_in;go_wp2_with fail;refine(oR e c a _ _ I s (by omega) (by rw[show Int.toNat 8=8 from rfl];omega)).mono ?_;rintro n g ⟨rfl,r,i⟩;rw[show Int.toNat 8=8 from rfl]at *;have o:=r;have v:=(dh b _ (σ e)).trans i;have t:g.cell? (Ad b.heap.size 0)=σ (.bool false):=i.cell (by rw[cM _ _ _ _ rfl];rfl) (by simp;omega);have D:g.cell? (Ad b.heap.size 1)=σ (ι κ 0):=i.cell (by rw[cM _ _ _ _ rfl];rfl) (by simp;omega);have E:g.cell? (Ad b.heap.size 2)=σ (θ ByteArray.empty):=i.cell (by rw[cM _ _ _ _ rfl];rfl) (by simp;omega);have u:g.heap[b.heap.size]?=(b.alloc (si false 0 ByteArray.empty)).heap[b.heap.size]?:=i.block _ (by simp) (by simp;omega);have L:g.frozen? (Ad b.heap.size 0)=false:=(dr (a:=(Ad b.heap.size 0)) u).trans (jG _ _ _ _ rfl);have M:g.frozen? (Ad b.heap.size 1)=false:=(dr (a:=(Ad b.heap.size 1)) u).trans (jG _ _ _ _ rfl);have N:g.frozen? (Ad b.heap.size 2)=false:=(dr (a:=(Ad b.heap.size 2)) u).trans (jG _ _ _ _ rfl);have j:=show eL c d a=(if rd c a 8=0 then(⟨true,0,ByteArray.empty⟩,a+8)else if d=1 then(⟨false,0,⟨(rdStr c (a+8) 8 (rd c a 8 - 1)).toArray⟩⟩,a+8+(rd c a 8 - 1)*8)else(⟨false,qJ (rd c (a+8) (rd c a 8 - 1)),ByteArray.empty⟩,a+8+(rd c a 8 - 1)))from rfl
 generalize rd c a 8=m at *;by_cases z:m=0;(case' pos=>subst z;rw[aF rfl]at j;have p:=au j;have A:=t;have B:=D;have C:=E;have x:=o;have w:=v);case' neg=>
  have V:((m:Int)==0)=false:=by rw[aK];omega
  rw[aE z]at j;by_cases l:d=1;(case' pos=>have K:(d==1)=true:=(by rw[l];rfl);rw[aF l]at j;clear l);(case' neg=>have K:(d==1)=false:=(by rw[aK];exact l);rw[aE l]at j;clear l);all_goals
   have p:=au j;clear j;go_wp2_with fail;first
    |refine(B3 e c (a+8) _ _ g o s (by omega) (by omega) (by omega) (by omega) (by omega)).mono ?_
    |refine(oR e c (a+8) _ g o s (by omega) (by omega)).mono ?_
   rintro n G ⟨rfl,r,i⟩;have k:G.heap[b.heap.size]?=g.heap[b.heap.size]?:=i.block _ (bA _ _ t) (by simp;omega);have A:=(cy (a:=(Ad b.heap.size 0)) k).trans t;have B:=(cy (a:=(Ad b.heap.size 1)) k).trans D;have C:=(cy (a:=(Ad b.heap.size 2)) k).trans E;have P:=(dr (a:=(Ad b.heap.size 0)) k).trans L;have Q:=(dr (a:=(Ad b.heap.size 1)) k).trans M;have R:=(dr (a:=(Ad b.heap.size 2)) k).trans N;(try rw[show Int.toNat 8=8 from rfl]at *);rw[show((m:Int) - 1).toNat=m - 1 by omega]at *;have x:=r;have w:=v.trans i;try
    have H:=Qr c (a+8) (m - 1);generalize rd c (a+8) (m - 1)=f at *;go_wp2_with fail;refine(Ux f G (by simpa using H)).mono ?_;rintro n W ⟨rfl,rfl⟩
 all_goals go_wp2;refine aD (v:=χ #[.bool (eL c d a).1.null,ι κ (eL c d a).1.n,θ (eL c d a).1.s]) ?_ rfl ⟨rfl,?_,?_⟩;{rw[p.J];simp[results,results328,go_sem,A,B,C];try rfl};{rw[p.J];exact(x.kG (by rw[az _ _ _ _ (by show e≠b.heap.size;omega),az _ _ _ _ (by show e≠b.heap.size;omega),az _ _ _ _ (by show e≠b.heap.size;omega)]))};exact fm (fm (fm w (ae _) _) (ae _) _) (ae _) _
end S
namespace S
theorem Cx(b:ByteArray)(c:Int)(a:Nat):(eL b c a).2<=a+2048:=by
 have d:=lC b a 8;have e:(2:Nat) ^ 8=256:=by decide
 unfold eL;split;{simp};split;{show a+8+(rd b a 8 - 1)*8<=_;omega};show a+8+(rd b a 8 - 1)<=_;omega
def lR(s:ByteArray)(k:Int)(u:Nat):Nat->List Cl×Nat
 |0=>([],u)
 |n+1=>((lR s k u n).1++[(eL s k (lR s k u n).2).1],(eL s k (lR s k u n).2).2)
theorem vI(d:ByteArray)(c:Int)(e a:Nat):(lR d c e a).1.length=a:=by induction a with|zero=>rfl|succ a b=>simp[lR,b]
theorem N7(c:ByteArray)(b:Int)(d a:Nat):(lR c b d a).2<=d+a*2048:=by induction a with|zero=>simp[lR]|succ a e=>have:=Cx c b (lR c b d a).2;simp only[lR];omega
def mY:Cl:=⟨false,0,ByteArray.empty⟩
theorem yb(c:Nat):(madeCells (Value.agg #[.bool false,ι κ 0,θ ByteArray.empty]).cells (c*3)).toList=bJ (List.replicate c mY):=by apply cJ;intro a;have k:(Value.agg #[.bool false,ι κ 0,θ ByteArray.empty]).cells=#[.bool false,ι κ 0,θ ByteArray.empty]:=rfl;by_cases i:a<c*3;{have g:(List.replicate c mY)[a / 3]?=σ mY:=(by rw[dy,aF (by omega)]);obtain⟨d,e,f⟩:=I9 g;have j:(madeCells #[.bool false,ι κ 0,θ ByteArray.empty] (c*3)).toList[a]?=σ (#[Value.bool false,ι κ 0,θ ByteArray.empty][a % 3]!):=(by simp[madeCells,i]);rw[k,j];have b:a % 3=0\/a % 3=1\/a % 3=2:=(by omega);rcases b with b|b|b;{rw[show a / 3*3=a by omega]at d;rw[d,b];rfl};{rw[show a / 3*3+1=a by omega]at e;rw[e,b];rfl};rw[show a / 3*3+2=a by omega]at f;rw[f,b];rfl};rw[aZ (by rw[cW,size_madeCells];omega),aZ (by rw[uN,j7];omega)]
theorem sw(a b:List Cl):bJ (a++b)=bJ a++bJ b:=by simp[bJ,List.flatMap_append]
theorem Zd(a:List Cl)(d:Nat)(b c:Cl):(((bJ (a++List.replicate (d+1) b)).set (a.length*3) (.bool c.null)).set (a.length*3+1) (ι κ c.n)).set (a.length*3+2) (θ c.s)=bJ ((a++[c])++List.replicate d b):=by have e:bJ (a++List.replicate (d+1) b)=bJ a++([.bool b.null,ι κ b.n,θ b.s]++bJ (List.replicate d b)):=(by rw[sw,iE];rfl);have f:bJ ((a++[c])++List.replicate d b)=bJ a++([.bool c.null,ι κ c.n,θ c.s]++bJ (List.replicate d b)):=(by rw[bN,sw];rfl);have g:=uN a;rw[e,f,<- g];rw[eM _ _ (ae _),eM _ _ (by omega),eM _ _ (by omega)];congr 1;rw[du,show(bJ a).length+1 - (bJ a).length=1 by omega,show(bJ a).length+2 - (bJ a).length=2 by omega];rfl
theorem zT{a:List Cl}{b c:Cl}(d:p.ownsRow w 229 3 (ψ (σ (Ad v 0)) n i) n (bJ (a++List.replicate (t+1) b))) :
 (((p.setCell (Ad v (a.length*3)) (.bool c.null)).setCell (Ad v (a.length*3+1)) (ι κ c.n)).setCell (Ad v (a.length*3+2)) (θ c.s)).ownsRow w 229 3 (ψ (σ (Ad v 0)) n i) n (bJ ((a++[c])++List.replicate t b)):=by rw[<- Zd a t b c];exact(((d.stored _ _).1.stored _ _).1.stored _ _).1
theorem um{c:List Cl}{a:Cl}(b:p.ownsRow w 229 3 (ψ (σ (Ad v 0)) n i) n (bJ (c++List.replicate (s+1) a)))(e:c.length=t) :
 (p.cell? (Ad v (t*3))=σ (.bool a.null)/\p.cell? (Ad v (t*3+1))=σ (ι κ a.n)/\p.cell? (Ad v (t*3+2))=σ (θ a.s))/\p.frozen? (Ad v (t*3))=false/\p.frozen? (Ad v (t*3+1))=false/\p.frozen? (Ad v (t*3+2))=false:=by
 have d:(c++List.replicate (s+1) a)[t]?=σ a:=by rw[bp (by omega),e,du];rfl
 have:=A4 b t a d;rw[gH]at this;exact⟨this,b.frozenAt _,b.frozenAt _,b.frozenAt _⟩
theorem Ll(g:Nat)(b:ByteArray)(e:Nat)(c:Int)(d:Nat)(f:ω)(o:xY f g b e)(N:b.size<=140737488351232)(hn:d<=255)(hb:e<=1000000) :
 Calls prog 344 #[χ #[],π (σ (Ad g 0)),ι κ c,ι κ (d:Int)] f λv z=>∃y,v=τ y/\z.ownsRow f.heap.size 229 3 y d (bJ (lR b c e d).1)/\f.grownBy z (σ g):=by
 obtain⟨O,M,P,Q,R⟩:=info_parts Tryz.Jb;have B:=o.alloc (ξ #[] 371);have U:=o.lt;clear o;go_in;go_wp2_with(at_make;refine eI _ rfl _ _ 230 rfl f.heap.size 229 O _ 3 underlying230 M P Q _ _ _ _ d rfl rfl rfl rfl (by rw[R];omega) (by unfold maxLen;omega) (by simp) ?_;intro w1 m n);rw[yb]at m;have u:=B.kept n (by simp);have A:=m;have E:=(dh f (ξ #[] 371) (σ g)).trans (n.but (σ g));have F:=u;clear m n u;go_wp2;go_loopw[15] (λi wr=>∃a:Nat,a<=d/\i=ι κ a/\Hid (wr.ownsRow f.heap.size 229 3 (ψ (σ (Ad (f.heap.size+1) 0)) d d) d (bJ ((lR b c e a).1++List.replicate (d - a) mY)))/\Hid (xY wr g b (lR b c e a).2)/\Hid (f.grownBy wr (σ g))) (λi _=>d - (intOf i).toNat);case atStart=>exact⟨0,aI _,rfl,au (by simpa[lR]using A),au (by simpa[lR]using F),E⟩
 case round=>obtain⟨a,V,rfl,s,H,t⟩:=hrel;by_cases X:a<d;{have jY:(a:Int)<(d:Int):=(by omega);have L:=N7 b c e a;have I:a*2048<=255*2048:=gV _ (by omega);go_wp2_with fail;refine(vH g b _ c wr H.J N (by omega)).mono ?_;rintro v w2 ⟨rfl,w,p⟩;have k:=s.J.kept p (by simp[Value.ownBlock];omega);have l:=vI b c e a;rw[show d - a=(d - (a+1))+1 by omega]at k;obtain⟨⟨W,c1,c2⟩,Y,Z,f2⟩:=um k l;have j:=zT (c:=(eL b c (lR b c e a).2).1) k;rw[l]at j;have x:(lR b c e (a+1)).1=(lR b c e a).1++[(eL b c (lR b c e a).2).1]:=rfl;rw[<- x]at j;have G:Hid ((lR b c e (a+1)).2=(eL b c (lR b c e a).2).2):=au rfl;have C:=w;have D:=t.J.trans p;generalize (eL b c (lR b c e a).2).1=i at *;have T:=j;clear w p k l x j L I;go_wp2_with fail;go_roundw;(case rel=>refine⟨a+1,by omega,by go_num,T,au ?_,au ?_⟩;{rw[G.J];exact C.kG (by rw[az _ _ _ _ (by show g≠f.heap.size+1;omega),az _ _ _ _ (by show g≠f.heap.size+1;omega),az _ _ _ _ (by show g≠f.heap.size+1;omega)])};exact fm (fm (fm D (bF _) _) (bF _) _) (bF _) _);case measure=>simp[intOf];omega};obtain rfl:a=d:=(by omega);have r:=s.J;rw[du,eo,bX]at r;have K:=au r;clear r;go_wp2;go_ret;exact⟨_,rfl,K.J,t.J⟩
end S
namespace S
def lE(s:ByteArray)(k:Int)(n:Nat):Nat->List Cl->Nat->List Cl
 |0,l,_=>l
 |f+1,l,u=>if l.length<n then lE s k n f (l++List.replicate (min (rd s u 8+1) (n - l.length)) (eL s k (u+8)).1) (eL s k (u+8)).2 else l
def Hr(s:ByteArray)(k:Int)(u n:Nat):List Cl:=lE s k n n [] u
theorem B5(e:ByteArray)(d:Int)(c a:Nat)(b:List Cl)(f:Nat)(g:c<=b.length):lE e d c a b f=b:=by cases a with|zero=>rfl|succ a=>rw[lE,aE (by omega)]
theorem GK(j:ByteArray)(i:Int)(c:Nat):∀(a:Nat) (b:List Cl) (d:Nat),b.length<=c->c - b.length<=a->(lE j i c a b d).length=c:=by intro a;induction a with|zero=>(intro b d e f;rw[lE];omega)|succ a g=>intro b d e f;rw[lE];split;{apply g;{rw[aw,j7];omega};rw[aw,j7];omega};omega
theorem N8(l:Nat)(e:ByteArray)(o:Nat)(i:Int)(a:Nat)(f:ω)(M:xY f l e o)(Q:e.size<=140737488351232)(hn:a<=255)(hb:o<=1000000) :
 Calls prog 326 #[χ #[],π (σ (Ad l 0)),ι κ i,ι κ (a:Int)] f λy U=>∃p,y=τ p/\U.ownsRow f.heap.size 229 3 p a (bJ (Hr e i o a))/\f.grownBy U (σ l):=by
 obtain⟨R,N,lU,T,lk⟩:=info_parts Tryz.Jb;have W:=M.alloc (ξ #[] 368);have E3:=M.lt;go_in;go_wp2_with(at_make;refine wpList_make_own _ rfl _ _ 230 rfl f.heap.size 229 R _ 3 underlying230 N lU T _ _ _ a rfl rfl rfl (by rw[lk];omega) (by unfold maxLen;omega) (by simp) ?_;intro w1 cj L);have Zc:=W.kept L (by simp);have Y:=(dh f (ξ #[] 368) (σ l)).trans (L.but (σ l));go_wp2;go_loopw[9] (λp wr=>∃(b n g:Nat) (k:List Cl),Hid (k.length=b)/\b<=a/\a - b<=n/\g<=o+b*2060/\p=ψ (σ (Ad (f.heap.size+1) 0)) b a/\Hid (lE e i a n k g=Hr e i o a)/\Hid (wr.ownsRow f.heap.size 229 3 (ψ (σ (Ad (f.heap.size+1) 0)) b a) b (bJ k))/\Hid (xY wr l e g)/\Hid (f.grownBy wr (σ l))) (λp _=>a - lenOf p);case atStart=>exact⟨0,a,o,[],au rfl,aI _,by omega,by omega,rfl,au rfl,au (by simpa[bJ]using cj),Zc,Y⟩
 case round=>
  obtain⟨b,n,g,k,v,ax,hf,A,rfl,E,G,N6,K⟩:=hrel;by_cases cQ:b<a
  .have jY:(b:Int)<(a:Int):=(by omega);have a1:b*2060<=255*2060:=gV _ (by omega);obtain⟨n,rfl⟩:∃f',n=f'+1:=⟨n - 1,by omega⟩;go_wp2_with fail;refine(oR l e g _ wr N6.J Q (by omega) (by rw[show Int.toNat 8=8 from rfl];omega)).mono ?_;rintro y w2 ⟨rfl,z,s⟩;rw[show Int.toNat 8=8 from rfl]at *;have aC:=lC e g 8;have av:(2:Nat) ^ 8=256:=(by decide);have Xi:Hid (lE e i a (n+1) k g=if k.length<a then lE e i a n (k++List.replicate (min (rd e g 8+1) (a - k.length)) (eL e i (g+8)).1) (eL e i (g+8)).2 else k):=au rfl;generalize rd e g 8=D at *;have X:=z;have py:=G.J.kept s (by simp[Value.ownBlock];omega);have Z:=K.J.trans s;have aq:D<256:=(by omega);go_wp2_with fail;refine(vH l e (g+8) i w2 X Q (by omega)).mono ?_;rintro y m ⟨rfl,z,s⟩;have Bz:=Cx e i (g+8);have P:=py.kept s (by simp[Value.ownBlock];omega);have V:=P;have aa:=Z.trans s;have a0:f.heap.size+1<m.heap.size:=(P.lt (f.heap.size+1) rfl).2;generalize hC:(eL e i (g+8)).1=c at *;generalize hU:(eL e i (g+8)).2=u2 at *;have HC:=au hC;have w:(m.alloc (si c.null c.n c.s)).cell? (Ad m.heap.size 0)=σ (.bool c.null):=(by rw[cM _ _ _ _ rfl];rfl);have B:(m.alloc (si c.null c.n c.s)).cell? (Ad m.heap.size 1)=σ (ι κ c.n):=(by rw[cM _ _ _ _ rfl];rfl);have C:(m.alloc (si c.null c.n c.s)).cell? (Ad m.heap.size 2)=σ (θ c.s):=(by rw[cM _ _ _ _ rfl];rfl);have HQ:=au (And.intro w (And.intro B C));have an:=z.alloc (si c.null c.n c.s);obtain⟨r,hm⟩:∃r:Nat,min (D+1) (a - b)=r:=⟨_,rfl⟩;have BF:min ((D:Int)+1) ((a:Int) - (b:Int))=r:=(by omega);go_wp2_with fail;go_loopw[9,31] (λp x wr=>∃d:Nat,d<=r/\x=ι κ d/\p=ψ (σ (Ad (f.heap.size+1) 0)) (b+d) a/\Hid (wr.ownsRow f.heap.size 229 3 (ψ (σ (Ad (f.heap.size+1) 0)) (b+d) a) (b+d) (bJ (k++List.replicate d c)))/\Hid (wr.cell? (Ad m.heap.size 0)=σ (.bool c.null)/\wr.cell? (Ad m.heap.size 1)=σ (ι κ c.n)/\wr.cell? (Ad m.heap.size 2)=σ (θ c.s))/\Hid (xY wr l e u2)/\Hid (f.grownBy wr (σ l))) (λ_ x _=>r - (intOf x).toNat);(case atStart=>exact⟨0,aI _,rfl,rfl,au (by simpa using V.alloc _),HQ,an,au (aa.trans (dh _ _ _))⟩);case round=>
    obtain⟨d,j,rfl,rfl,H,al,I,F⟩:=hrel;by_cases Us:d<r
    .have ap:(d:Int)<r:=(by omega);obtain⟨w,B,C⟩:=al.J;have lQ:m.heap.size<wr.heap.size:=bA _ _ w;go_wp2_with(at_builtin;refine wpList_append_fits _ rfl _ _ 230 rfl f.heap.size 229 R 3 underlying230 N T (f.heap.size+1) (b+d) a _ rfl (H.J.alloc _) (Ad wr.heap.size 0) 1 1 [.bool c.null,ι κ c.n,θ c.s] rfl rfl ?c1 ?c2 (by omega) ?_);case c1=>
      intro d o j
      match d,j with
      |0,j=>simp at j;subst j;simp[Addr.add]
      |1,j=>simp at j;subst j;simp[Addr.add]
      |2,j=>simp at j;subst j;simp[Addr.add]
     (case c2=>intro o A;simp at A;rcases A with rfl|rfl|rfl<;>rfl);intro w5 ao Uz;have u:=(dh wr (si c.null c.n c.s) (σ (f.heap.size+1))).trans Uz;have ac:=ao;have ad:=au (And.intro (u.cell w (by simp;omega)) (And.intro (u.cell B (by simp;omega)) (u.cell C (by simp;omega))));have am:=I.J.kept u (by simp;omega);have ab:=F.J.andThen u (λar hg=>by cases hg;omega);go_wp2;go_roundw;(case rel=>refine⟨d+1,by omega,by go_num,rfl,au ?_,ad,am,ab⟩;have O:=ac;rw[<- FV,bN]at O;rw[show List.replicate (d+1) c=List.replicate d c++[c]from List.replicate_succ'];exact O);case measure=>simp[intOf];omega
    obtain rfl:d=r:=(by omega);go_wp2_with fail;go_roundw;(case rel=>refine⟨b+d,n,u2,k++List.replicate d c,au (by rw[aw,j7,v.J]),by omega,by omega,by rw[oM];omega,rfl,au ?_,H,I,F⟩;have t:=Xi.J.symm.trans E.J;rw[aF (by rw[v.J];exact cQ),v.J,hm]at t;exact t);case measure=>show a - (b+d)<a - b;omega
  obtain rfl:b=a:=(by omega);go_wp2;go_ret;refine⟨_,rfl,?_,K.J⟩;have t:=E.J;rw[B5 _ _ _ _ _ _ (by rw[v.J];omega)]at t;rw[<- t];exact G.J
end S
namespace S
def vJ(es:List Cl)(q:Nat):Cl:=es.getD q mY
def ke(s:ByteArray)(es:List Cl)(wd u:Nat):Nat->List Cl
 |0=>[]
 |n+1=>ke s es wd u n++[vJ es (rd s (u+n*wd) wd)]
theorem wS(d:ByteArray)(b:List Cl)(f e a:Nat):(ke d b f e a).length=a:=by induction a with|zero=>rfl|succ a c=>simp[ke,c]
def A5(s:ByteArray)(k:Int)(u n:Nat):List Cl:=
 ke s (lR s k (u+8) (rd s u 8)).1 (pw (rd s u 8)) (lR s k (u+8) (rd s u 8)).2 n
theorem Ze(b:List Cl)(c:Nat)(a:Cl):b++List.replicate (c+1) a=(b++[a])++List.replicate c a:=by rw[bN];rfl
theorem N9(f:Nat)(a:ByteArray)(c:Nat)(d:Int)(i:Nat)(g:ω)(M:xY g f a c)(y:a.size<=140737488351232)(hn:i<=255)(hb:c<=1000000) :
 Calls prog 336 #[χ #[],π (σ ⟨f,0,ν⟩),ι κ d,ι κ (i:Int)] g λu W=>∃V,u=τ V/\W.ownsRow g.heap.size 229 3 V i (bJ (A5 a d c i))/\g.grownBy W (σ f):=by
 obtain⟨Q,P,R,T,U⟩:=info_parts Tryz.Jb;have Z:=M.alloc (ξ #[] 369);have E3:=M.lt;go_in;go_wp2_with fail;refine(oR f a c _ _ Z y (by omega) (by rw[show Int.toNat 8=8 from rfl];omega)).mono ?_;rintro u l ⟨rfl,v,m⟩;rw[show Int.toNat 8=8 from rfl]at *;have ba:=lC a c 8;have ar:(2:Nat) ^ 8=256:=by decide
 have Tr:Hid (A5 a d c i=ke a (lR a d (c+8) (rd a c 8)).1 (pw (rd a c 8)) (lR a d (c+8) (rd a c 8)).2 i):=au rfl;generalize rd a c 8=k at *;have a4:k<=255:=by omega
 have am:=v;have ac:=(dh g (ξ #[] 369) (σ f)).trans m;have bb:g.heap.size+1<=l.heap.size:=by have:=m.size;simpa using this
 go_wp2_with(at_make;refine eI _ rfl _ _ 230 rfl g.heap.size 229 Q _ 3 underlying230 P R T _ _ _ _ k rfl rfl rfl rfl (by rw[U];omega) (by unfold maxLen;omega) (by omega) ?_;intro w1 t n);rw[yb]at t;have Y:=t;have HG:=ac.trans (n.but (σ f));have HR:=am.kept n (by simp);go_wp2;go_loopw[20] (λj wr=>∃b:Nat,b<=k/\j=ι κ b/\Hid (wr.ownsRow g.heap.size 229 3 (ψ (σ ⟨l.heap.size,0,ν⟩) k k) k (bJ ((lR a d (c+8) b).1++List.replicate (k - b) mY)))/\Hid (xY wr f a (lR a d (c+8) b).2)/\Hid (g.grownBy wr (σ f))) (λj _=>k - (intOf j).toNat);case atStart=>exact⟨0,aI _,rfl,au (by simpa[lR]using Y),au (by simpa[lR]using HR),HG⟩
 case round=>
  obtain⟨b,KO,rfl,G,K,I⟩:=hrel;by_cases cQ:b<k;{have jY:(b:Int)<(k:Int):=(by omega);have a3:=N7 a d (c+8) b;have Pu:b*2048<=255*2048:=gV _ (by omega);go_wp2_with fail;refine(vH f a _ d wr K.J y (by omega)).mono ?_;rintro u w2 ⟨rfl,v,m⟩;have z:=G.J.kept m (by simp[Value.ownBlock];omega);have s:=vI a d (c+8) b;rw[show k - b=(k - (b+1))+1 by omega]at z;obtain⟨⟨c0,c1,c2⟩,f0,f1,f2⟩:=um z s;have r:=zT (c:=(eL a d (lR a d (c+8) b).2).1) z;rw[s]at r;have a0:(lR a d (c+8) (b+1)).1=(lR a d (c+8) b).1++[(eL a d (lR a d (c+8) b).2).1]:=rfl;rw[<- a0]at r;have ap:Hid ((lR a d (c+8) (b+1)).2=(eL a d (lR a d (c+8) b).2).2):=au rfl;have H4:=v;have H5:=I.J.trans m;generalize (eL a d (lR a d (c+8) b).2).1=j at *;have A:=r;go_wp2_with fail;go_roundw;(case rel=>refine⟨b+1,by omega,by go_num,A,au ?_,au ?_⟩;{rw[ap.J];exact H4.kG (by rw[az _ _ _ _ (by show f≠l.heap.size;omega),az _ _ _ _ (by show f≠l.heap.size;omega),az _ _ _ _ (by show f≠l.heap.size;omega)])};exact fm (fm (fm H5 (by show g.heap.size<=l.heap.size;omega) _) (by show g.heap.size<=l.heap.size;omega) _) (by show g.heap.size<=l.heap.size;omega) _);case measure=>simp[intOf];omega}
  rename ω=>wa
  obtain rfl:b=k:=by omega
  have o:=G.J;rw[du,eo,bX]at o;have av:=vI a d (c+8) b;have a5:=N7 a d (c+8) b;have Pu:b*2048<=255*2048:=gV _ (by omega);generalize hES:(lR a d (c+8) b).1=es at *;generalize hP:(lR a d (c+8) b).2=p at *;have a9:p<=2000000:=by omega
  have al:=o;have D:=au av;have GD:l.heap.size<wa.heap.size:=(o.lt l.heap.size rfl).2;go_wp2_with fail;refine(zQ b _ (by omega)).mono ?_;rintro u w3 ⟨rfl,rfl⟩;have ax:=Xe b (by omega);generalize pw b=wd at *;go_wp2_with(at_make;refine eI _ rfl _ _ 230 rfl g.heap.size 229 Q _ 3 underlying230 P R T _ _ _ _ i rfl rfl rfl rfl (by rw[U];omega) (by unfold maxLen;omega) (by omega) ?_;intro w4 t n);rw[yb]at t;have aa:=al.kept n (by simp[Value.ownBlock]);have ad:=I.J.trans (n.but (σ f));have an:=K.J.kept n (by simp);go_wp2;go_loopw[37] (λj wr=>∃e:Nat,e<=i/\j=ι κ e/\Hid (wr.ownsRow g.heap.size 229 3 (ψ (σ ⟨l.heap.size,0,ν⟩) b b) b (bJ es))/\Hid (wr.ownsRow g.heap.size 229 3 (ψ (σ ⟨wa.heap.size,0,ν⟩) i i) i (bJ (ke a es wd p e++List.replicate (i - e) mY)))/\Hid (xY wr f a (p+e*wd))/\Hid (g.grownBy wr (σ f))) (λj _=>i - (intOf j).toNat)
  case atStart=>exact⟨0,aI _,rfl,aa,au (by simpa[ke]using t),au (by simpa using an),ad⟩
  case round=>
   obtain⟨e,hj,rfl,ab,B,ao,F⟩:=hrel;by_cases Us:e<i
   . have a2:(e:Int)<(i:Int):=by omega
     have a8:e*wd<=255*8:=lL (by omega) (by omega);go_wp2_with fail;refine(oR f a _ _ wr ao.J y (by omega) (by rw[bQ];omega)).mono ?_;rintro u X ⟨rfl,v,m⟩;rw[bQ]at *;have a1:=lC a (p+e*wd) wd;have bd:2 ^ wd<=2 ^ 8:=eE (by omega) ax;have ar:(2:Nat) ^ 8=256:=by decide
     have L:Hid (ke a es wd p (e+1)=ke a es wd p e++[vJ es (rd a (p+e*wd) wd)]):=au rfl;generalize rd a (p+e*wd) wd=q at *;have hq:q<256:=by omega
     have O:=ab.J.kept m (by simp[Value.ownBlock];omega);have w:=B.J.kept m (by simp[Value.ownBlock];omega);rw[show i - e=(i - (e+1))+1 by omega]at w;have s:=wS a es wd p e;have H:Hid (xY X f a (p+(e+1)*wd)):=au (by rw[q6,<- gA];exact v);have E:=F.J.trans m;have C:=O;have bc:wa.heap.size<X.heap.size:=(w.lt wa.heap.size rfl).2;by_cases aC:q<b
     . have aq:(q:Int)<(b:Int):=by omega
       obtain⟨⟨c0,c1,c2⟩,f0,f1,f2⟩:=um w s;obtain⟨j,N⟩:∃j,es[q]?=σ j:=⟨es[q]'(by rw[D.J];exact aC),af _⟩;obtain⟨d0,d1,d2⟩:=A4 O q j N;rw[gH]at d0 d1 d2;have r:=zT (c:=j) w;rw[s]at r;have A:=r;have x:Hid (vJ es q=j):=au (by simp[vJ,N]);go_wp2_with fail;go_roundw
       case rel=>
        refine⟨e+1,by omega,by go_num,au ?_,au ?_,au ?_,au ?_⟩
        . exact((C.kept (grownBy_setCell _ ⟨wa.heap.size,_,ν⟩ _) (by simp[Value.ownBlock];omega)).kept (grownBy_setCell _ ⟨wa.heap.size,_,ν⟩ _) (by simp[Value.ownBlock];omega)).kept (grownBy_setCell _ ⟨wa.heap.size,_,ν⟩ _) (by simp[Value.ownBlock];omega)
        . rw[L.J,x.J];exact A
        . exact H.J.kG (by rw[az _ _ _ _ (by show f≠wa.heap.size;omega),az _ _ _ _ (by show f≠wa.heap.size;omega),az _ _ _ _ (by show f≠wa.heap.size;omega)])
        . exact fm (fm (fm E (by show g.heap.size<=wa.heap.size;omega) _) (by show g.heap.size<=wa.heap.size;omega) _) (by show g.heap.size<=wa.heap.size;omega) _
       case measure=>simp[intOf];omega
     . have aq:(b:Int)<=(q:Int):=by omega
       have x:Hid (vJ es q=mY):=au (by rw[vJ,List.getD,aZ (by rw[D.J];omega)];rfl);go_wp2_with fail;go_roundw
       case rel=>
        refine⟨e+1,by omega,by go_num,C,au ?_,H,E⟩;rw[L.J,x.J,<- Ze];exact w
       case measure=>simp[intOf];omega
   . obtain rfl:e=i:=by omega
     have o:=B.J;rw[du,eo,bX]at o;have Pw:=au o;go_wp2;go_ret;exact⟨_,rfl,by rw[Tr.J];exact Pw.J,F.J⟩
end S
namespace S
def QE(least:Int)(v:Nat):Int:=wrap64 (least+(v:Int))
theorem aho(a:Int)(b:Nat):cR (QE a b):=by unfold QE wrap64 cR;omega
theorem ahp(b:cR r)(a:x<=r):QE x (r - x).toNat=r:=by unfold QE;rw[show x+((r - x).toNat:Int)=r by omega];unfold wrap64 cR at *;omega
def mJ(s:ByteArray)(k least:Int)(width p:Nat):Cl×Nat:=
 if k=1 then(⟨false,0,⟨(rdStr s (p+4) 7 (rd s p 4)).toArray⟩⟩,p+4+rd s p 4*7)else(⟨false,QE least (rd s p width),ByteArray.empty⟩,p+width)
def kY(s:ByteArray)(dI:Bool)(k least:Int)(width p:Nat):Cl×Nat:=
 if dI then(if sM s p then(⟨true,0,ByteArray.empty⟩,p+1)else mJ s k least width (p+1))else mJ s k least width p
theorem B6(b:ByteArray)(d e:Int)(c a:Nat)(i:c<=127):(mJ b d e c a).2<=a+127:=by
 have f:=lC b a 4;have g:(2:Nat) ^ 4=16:=by decide
 unfold mJ;split;{show a+4+rd b a 4*7<=_;omega};show a+c<=_;omega
theorem Lm(e:ByteArray)(g:Bool)(c d:Int)(b a:Nat)(f:b<=127):(kY e g c d b a).2<=a+128:=by have i:=B6 e c d b a f;have j:=B6 e c d b (a+1) f;unfold kY;split;{split;{show a+1<=_;omega};omega};omega
def gR(s:ByteArray)(dI:Bool)(k least:Int)(width p:Nat):Nat->List Cl×Nat
 |0=>([],p)
 |n+1=>((gR s dI k least width p n).1++[(kY s dI k least width (gR s dI k least width p n).2).1],(kY s dI k least width (gR s dI k least width p n).2).2)
theorem zU(g:ByteArray)(b:Bool)(d e:Int)(i f a:Nat):(gR g b d e i f a).1.length=a:=by induction a with|zero=>rfl|succ a c=>simp[gR,c]
theorem UA(g:ByteArray)(c:Bool)(d e:Int)(b f a:Nat)(i:b<=127):(gR g c d e b f a).2<=f+a*128:=by induction a with|zero=>simp[gR]|succ a j=>have:=Lm g c d e b (gR g c d e b f a).2 i;simp only[gR];omega
def sx(s:ByteArray)(k:Int)(u:Nat):Int×Nat×Nat:=
 if k=1 then(0,0,u)else((eL s 0 u).1.n,rd s (eL s 0 u).2 7,(eL s 0 u).2+7)
def ye(s:ByteArray)(k:Int)(u n:Nat):List Cl:=
 (gR s (sM s u) k (sx s k (u+1)).1 (sx s k (u+1)).2.1 (sx s k (u+1)).2.2 n).1
theorem Oa(b:List Cl)(d:Nat)(a:Cl)(c:Nat)(i:c<3)(e:Value):(bJ (b++List.replicate (d+1) a)).set (b.length*3+c) e=bJ b++(([.bool a.null,ι κ a.n,θ a.s]:List Value).set c e++bJ (List.replicate d a)):=by have f:bJ (b++List.replicate (d+1) a)=bJ b++([.bool a.null,ι κ a.n,θ a.s]++bJ (List.replicate d a)):=(by rw[sw,iE];rfl);have g:=uN b;rw[f,<- g,eM _ _ (by omega),show(bJ b).length+c - (bJ b).length=c by omega,List.set_append_left _ _ (by simpa using i)]
theorem Cz(b:List Cl)(d:Nat)(c a:Cl):bJ ((b++[a])++List.replicate d c)=bJ b++([.bool a.null,ι κ a.n,θ a.s]++bJ (List.replicate d c)):=by rw[bN,sw];rfl
theorem QF{a:List Cl}(e:a.length=t)(d:p.ownsRow w 229 3 (ψ (σ ⟨v,0,ν⟩) n i) n (bJ (a++List.replicate (s+1) mY))) :
 (p.setCell ⟨v,t*3,ν⟩ (.bool true)).ownsRow w 229 3 (ψ (σ ⟨v,0,ν⟩) n i) n (bJ ((a++[⟨true,0,ByteArray.empty⟩])++List.replicate s mY)):=by have b:=Oa a s mY 0 (by omega) (.bool true);rw[e,show t*3+0=t*3 from rfl]at b;rw[Cz];have c:=(d.stored (t*3) (.bool true)).1;rw[b]at c;exact c
theorem UB{a:List Cl}(f:a.length=t)(b:Int)(e:p.ownsRow w 229 3 (ψ (σ ⟨v,0,ν⟩) n i) n (bJ (a++List.replicate (s+1) mY))) :
 (p.setCell ⟨v,t*3+1,ν⟩ (ι κ b)).ownsRow w 229 3 (ψ (σ ⟨v,0,ν⟩) n i) n (bJ ((a++[⟨false,b,ByteArray.empty⟩])++List.replicate s mY)):=by have c:=Oa a s mY 1 (by omega) (ι κ b);rw[f]at c;rw[Cz];have d:=(e.stored (t*3+1) (ι κ b)).1;rw[c]at d;exact d
theorem UC{a:List Cl}(f:a.length=t)(b:ByteArray)(e:p.ownsRow w 229 3 (ψ (σ ⟨v,0,ν⟩) n i) n (bJ (a++List.replicate (s+1) mY))) :
 (p.setCell ⟨v,t*3+2,ν⟩ (θ b)).ownsRow w 229 3 (ψ (σ ⟨v,0,ν⟩) n i) n (bJ ((a++[⟨false,0,b⟩])++List.replicate s mY)):=by have c:=Oa a s mY 2 (by omega) (θ b);rw[f]at c;rw[Cz];have d:=(e.stored (t*3+2) (θ b)).1;rw[c]at d;exact d
theorem ahq(c:Bool)(a:Int)(d:ByteArray)(b:ω):(Instr.field 229 (χ #[.bool c,ι κ a,θ d]) 1).run prog b=.ok (ι κ a) b:=by kernel_rfl
theorem acT(a:Int)(b:Nat):wrap64 (IntKind.u64.wrap (IntKind.u64.wrap a+(b:Int)))=QE a b:=by unfold QE wrap64;rw[il,il];omega
theorem Ob(l:Nat)(a:ByteArray)(j:Nat)(b:Int)(d:Nat)(r:ω)(V:xY r l a j)(w:a.size<=140737488351232)(hn:d<=255)(hb:j<=1000000) :
 Calls prog 339 #[χ #[],π (σ ⟨l,0,ν⟩),ι κ b,ι κ (d:Int)] r λu w'=>∃Z,u=τ Z/\w'.ownsRow r.heap.size 229 3 Z d (bJ (ye a b j d))/\r.grownBy w' (σ l):=by
 have⟨i0,hi,lU,lV,lk⟩:=info_parts Tryz.Jb;have aa:=au (V.alloc (ξ #[] 370));have E3:=V.lt;go_in;go_wp2_with fail;refine(FY l a j _ aa.J w (by omega)).mono ?_;rintro u I ⟨rfl,p,n⟩;have t:Hid (ye a b j d=(gR a (sM a j) b (sx a b (j+1)).1 (sx a b (j+1)).2.1 (sx a b (j+1)).2.2 d).1):=au rfl;generalize sM a j=dI at *;have M:=au p;have L:=au ((dh r (ξ #[] 370) (σ l)).trans n);by_cases v:b=1;(case' pos=>have t1:(b != 1)=false:=(by simp[v]);have t2:(b==1)=true:=(by simp[v]);obtain⟨f,e,k,Dq,ac,F,K⟩:∃(f:Int) (e k:Nat),k<=2000000/\e<=127/\xY I l a k/\Hid (ye a b j d=(gR a dI b f e k d).1):=⟨0,0,j+1,by omega,by omega,M.J,au (t.J.trans (by unfold sx;rw[aF v]))⟩;have E:=L.J;generalize I=B at *);(case' neg=>have t1:(b != 1)=true:=(by simp[v]);have t2:(b==1)=false:=(by simp[v]);have hF:sx a b (j+1)=_:=aE v;replace t:=t.J;rw[hF]at t;replace t:=au t;go_wp2_with fail;refine(vH l a (j+1) 0 I M.J w (by omega)).mono ?_;rintro u w9 ⟨rfl,p,n⟩;have Bz:=Cx a 0 (j+1);generalize (eL a 0 (j+1)).1=c9 at *;generalize (eL a 0 (j+1)).2=p9 at *;have ad:=ahq c9.null c9.n c9.s;go_wp2_with fail;refine(oR l a p9 _ w9 p w (by omega) (by rw[show Int.toNat 7=7 from rfl];omega)).mono ?_;rintro u B ⟨rfl,F,C⟩;rw[show Int.toNat 7=7 from rfl]at *;have GL:=lC a p9 7;have ap:(2:Nat) ^ 7=128:=(by decide);generalize rd a p9 7=e at *;have ac:e<=127:=(by omega);have⟨k,W⟩:=nm (p9+7);have Dq:k<=2000000:=(by omega);rw[<- W]at F t;have K:=t;have E:=(L.J.trans n).trans C;generalize c9.n=f at *);all_goals
  have Y:=au v;have ar:=E.size;go_wp2_with(at_make;refine eI _ rfl _ _ 230 rfl r.heap.size 229 i0 _ 3 underlying230 hi lU lV _ _ _ _ d rfl rfl rfl rfl (by rw[lk];omega) (by unfold maxLen;omega) (by omega) ?_;intro w1 P Q);rw[yb]at P;have HG:=E.trans (Q.but (σ l));have HR:=F.kept Q (by simp);go_wp2;go_loopw[28] (λG wr=>∃c:Nat,c<=d/\G=ι κ c/\wr.ownsRow r.heap.size 229 3 (ψ (σ ⟨B.heap.size,0,ν⟩) d d) d (bJ ((gR a dI b f e k c).1++List.replicate (d - c) mY))/\xY wr l a (gR a dI b f e k c).2/\r.grownBy wr (σ l)) (λG _=>d - (intOf G).toNat);case atStart=>exact⟨0,aI _,rfl,by simpa[gR]using P,by simpa[gR]using HR,HG⟩
  case round=>
   obtain⟨c,KO,rfl,g,o,s⟩:=hrel;by_cases cQ:c<d
   .have jY:(c:Int)<(d:Int):=(by omega);have an:=UA a dI b f e k c (by omega);have Pu:c*128<=255*128:=gV _ (by omega);have IZ:=zU a dI b f e k c;have N:Hid (gR a dI b f e k (c+1)=((gR a dI b f e k c).1++[(kY a dI b f e (gR a dI b f e k c).2).1],(kY a dI b f e (gR a dI b f e k c).2).2)):=au rfl;generalize (gR a dI b f e k c).1=A at *;generalize (gR a dI b f e k c).2=q at *;have GI:q<=4000000:=(by omega);have x:=au IZ;rcases(show dI=false\/(dI=true/\sM a q=false)\/(dI=true/\sM a q=true)by cases dI<;>cases sM a q<;>simp)with rfl|⟨rfl,D⟩|⟨rfl,D⟩
    (case' inl=>obtain⟨i,y,m⟩:∃i,Hid (i=q)/\Hid (kY a false b f e q=mJ a b f e i):=⟨_,au rfl,au rfl⟩;rw[<- y.J]at o);(case' inr.inl|inr.inr=>obtain⟨i,y,m⟩:∃i,Hid (i=q+1)/\Hid (kY a true b f e q=if sM a q then(⟨true,0,ByteArray.empty⟩,i)else mJ a b f e i):=⟨_,au rfl,au rfl⟩;go_wp2_with fail;refine(FY l a q _ o w (by omega)).mono ?_;rintro u w5 ⟨rfl,p,n⟩;replace g:=g.kept n (by simp[Value.ownBlock];omega);replace s:=s.trans n;replace o:=p;rw[<- y.J]at o;replace m:=m.J;rw[D]at m;replace m:=au m);all_goals
     have W:i<=4000001:=(by have:=y.J;omega)
     (try
       have X:sM a q=true:=by exact D
       rw[show d - c=(d - (c+1))+1 by omega]at g;have⟨⟨O,c1,c2⟩,R,T,U⟩:=um g x.J;have H:=QF x.J g)
     go_wp2_with fail
     (try first
       | (have X:Hid (b=1):=by exact Y
          refine(oR l a i _ _ o w (by omega) (by rw[show Int.toNat 4=4 from rfl];omega)).mono ?_;rintro u w6 ⟨rfl,p,n⟩;rw[show Int.toNat 4=4 from rfl]at *
          replace m:=au (m.J.trans (aF X.J));have aq:=lC a i 4;have ao:(2:Nat) ^ 4=16:=by decide
          generalize rd a i 4=z at *;have al:z<=15:=by omega
          go_wp2_with fail;refine(B3 l a _ _ _ _ p w (by omega) (by omega) (by omega) (by omega) (by omega)).mono ?_;rintro u w7 ⟨rfl,h6,C⟩;rw[show Int.toNat 7=7 from rfl,bQ]at *
          replace g:=(g.kept n (by simp[Value.ownBlock];omega)).kept C (by simp[Value.ownBlock];omega)
          replace s:=(s.trans n).trans C
          replace o:=h6;rw[show d - c=(d - (c+1))+1 by omega]at g;have⟨⟨O,c1,c2⟩,R,T,U⟩:=um g x.J;have H:=UC x.J ⟨(rdStr a (i+4) 7 z).toArray⟩ g;go_wp2_with fail)
       | (refine(oR l a i _ _ o w (by omega) (by rw[bQ];omega)).mono ?_
          rintro u w6 ⟨rfl,p,n⟩;rw[bQ]at *
          replace m:=au (m.J.trans (aE Y.J));have am:=Qr a i e;have ab:=au (acT f (rd a i e));generalize rd a i e=z at *
          replace g:=g.kept n (by simp[Value.ownBlock];omega)
          replace s:=s.trans n
          replace o:=p;rw[show d - c=(d - (c+1))+1 by omega]at g;have⟨⟨O,c1,c2⟩,R,T,U⟩:=um g x.J;have H:=UB x.J (QE f z) g;go_wp2_with fail))
     go_roundw;(case rel=>(try rw[ab.J]);refine⟨c+1,by omega,by go_num,?_,?_,?_⟩;{rw[N.J,m.J];exact H};{rw[N.J,m.J];exact o.kG (az _ _ _ _ (by show l≠B.heap.size;omega))};exact fm s (by show r.heap.size<=B.heap.size;omega) _);case measure=>simp[intOf];omega
   obtain rfl:c=d:=(by omega);rw[du,eo,bX]at g;go_wp2;go_ret;exact⟨_,rfl,by rw[K.J];exact g,s⟩
end S
namespace S
def wC(p k:Int)(cs:List Cl):Bool:=decide (0<=p/\p<=3)&&(decide (0<=k/\k<=2)&&cs.all (okB k))
theorem Zf(g f:Int)(a:Nat)(c:Option Addr)(d:Nat)(b:ω)(k:64<a)(l:a<=140737488355328) :
 Calls prog 184 #[ι κ g,ι κ f,ψ c a d] b λe i=>e=τ (.tuple #[θ ByteArray.empty,ι κ 8])/\b=i:=by
 have j:(64:Int)<(a:Int):=by omega
 go_in;go_wp2;go_ret2;exact⟨rfl,rfl⟩
theorem Zg(d b:Int)(a:List Cl)(f:Option Addr)(g i k:Nat)(c:ω)(l:0<a.length->f=σ ⟨g,i,ν⟩)(m:nD c g i a)(B:a.length<=64)
 (n:∀x∈a,x.s.size<=140737488351232) (j:wC d b a=false) :
 Calls prog 184 #[ι κ d,ι κ b,ψ f a.length k] c λe z=>e=τ (.tuple #[θ ByteArray.empty,ι κ 7])/\Below c.heap.size c z:=by
 have A:(a.length:Int)<=64:=by omega
 have r:=B1 b a f g i k c l m (by omega) n;have u:=wB d c;have w:=Jc b c;have s:=au j;clear l m n j;go_in;go_wp2_with fail;refine u.mono ?_;rintro e p ⟨rfl,rfl⟩;cases hp:decide (0<=d/\d<=3);{clear hp;go_wp2;go_ret2;exact⟨rfl,ah _ _⟩};have v:=au hp;clear hp;go_wp2_with fail;refine w.mono ?_;rintro e p ⟨rfl,rfl⟩;cases hk:decide (0<=b/\b<=2);{clear hk;go_wp2;go_ret2;exact⟨rfl,ah _ _⟩};have t:=au hk;clear hk;go_wp2_with fail;refine r.mono ?_;rintro e p ⟨rfl,y⟩;have o:a.all (okB b)=false:=(by have:=s.J;unfold wC at this;rw[v.J,t.J]at this;simpa using this);rw[o];clear o;go_wp2;go_ret2;exact⟨rfl,y⟩
def kB(s:ByteArray)(p k:Int)(u n:Nat):List Cl:=if p=1 then Hr s k u n else if p=2 then A5 s k u n else if p=3 then ye s k u n else(lR s k u n).1
def Made(c:Cl):Prop:=cR c.n/\c.s.size<=1000
theorem QG:Made mY:=⟨by simp[mY,cR],by show(0:Nat)<=1000;omega⟩
theorem DP(a:ByteArray)(c:Int)(b:Nat):Made (eL a c b).1:=by
 have d:=lC a b 8;have e:(2:Nat) ^ 8=256:=by decide
 unfold eL;split;{exact⟨by simp[cR],by show(0:Nat)<=1000;omega⟩};split;{refine⟨by simp[cR],?_⟩;show(rdStr a (b+8) 8 (rd a b 8 - 1)).toArray.size<=1000;rw[jH,ml];omega};exact⟨Qt (by have:=Qr a (b+8) (rd a b 8 - 1);simpa using this),by show(0:Nat)<=1000;omega⟩
theorem Mj(f:ByteArray)(e:Int)(g c:Nat):∀b∈(lR f e g c).1,Made b:=by
 induction c with
 |zero=>intro b a;simp[lR]at a
 |succ c d=>
  intro b a;simp only[lR,List.mem_append,List.mem_cons,List.not_mem_nil,or_false]at a;rcases a with a|a
  {exact d b a};rw[a];exact DP _ _ _
theorem Ln(k:ByteArray)(i:Int)(j:Nat):∀(c:Nat) (e:List Cl) (f:Nat),(∀a∈e,Made a)->∀a∈lE k i j c e f,Made a:=by
 intro c;induction c with
 |zero=>intro e f d;exact d
 |succ c g=>
  intro e f d;rw[lE];split
  .apply g;intro a b;rcases bn.1 b with b|b
   {exact d a b};rw[List.eq_of_mem_replicate b];exact DP _ _ _
  exact d
theorem Jd(f:ByteArray)(d:List Cl)(e g c:Nat)(j:∀b∈d,Made b):∀b∈ke f d e g c,Made b:=by
 induction c with
 |zero=>intro b a;simp[ke]at a
 |succ c k=>
  intro b a;simp only[ke,List.mem_append,List.mem_cons,List.not_mem_nil,or_false]at a;rcases a with a|a
  {exact k b a};rw[a];unfold vJ;rw[List.getD];cases hq:d[rd f (g+c*e) e]? with|none=>exact QG|some i=>exact j i (aA hq)
theorem yS(b:ByteArray)(c d:Int)(e a:Nat):Made (mJ b c d e a).1:=by
 have f:=lC b a 4;have g:(2:Nat) ^ 4=16:=by decide
 unfold mJ;split;{refine⟨by simp[cR],?_⟩;show(rdStr b (a+4) 7 (rd b a 4)).toArray.size<=1000;rw[jH,ml];omega};exact⟨aho _ _,by show(0:Nat)<=1000;omega⟩
theorem GN(e:ByteArray)(a:Bool)(b c:Int)(f d:Nat):Made (kY e a b c f d).1:=by unfold kY;split;{split;{exact⟨by simp[cR],by show(0:Nat)<=1000;omega⟩};exact yS _ _ _ _ _};exact yS _ _ _ _ _
theorem Oc(j:ByteArray)(d:Bool)(f g:Int)(k i c:Nat):∀b∈(gR j d f g k i c).1,Made b:=by
 induction c with
 |zero=>intro b a;simp[gR]at a
 |succ c e=>
  intro b a;simp only[gR,List.mem_append,List.mem_cons,List.not_mem_nil,or_false]at a;rcases a with a|a
  {exact e b a};rw[a];exact GN _ _ _ _ _ _
theorem Od(c:ByteArray)(f b:Int)(d a:Nat):∀e∈kB c f b d a,Made e:=by unfold kB;split;{exact Ln c b a a [] d (by simp)};split;{exact Jd _ _ _ _ _ (Mj _ _ _ _)};split;{exact Oc _ _ _ _ _ _ _};exact Mj _ _ _ _
theorem Je(c:ByteArray)(e b:Int)(d a:Nat):(kB c e b d a).length=a:=by unfold kB;split;{exact GK c b a a [] d (by simp) (by simp)};split;{exact wS _ _ _ _ _};split;{exact zU _ _ _ _ _ _ _};exact vI _ _ _ _
theorem Tryz.alW(a:ω):(method 566 368 (χ #[]) (kd prog 336 0)).run prog a=.ok (326,χ #[]) a:=by kernel_rfl
theorem Tryz.alX(a:ω):(method 566 369 (χ #[]) (kd prog 336 0)).run prog a=.ok (336,χ #[]) a:=by kernel_rfl
theorem Tryz.alY(a:ω):(method 566 370 (χ #[]) (kd prog 336 0)).run prog a=.ok (339,χ #[]) a:=by kernel_rfl
theorem Tryz.alZ(a:ω):(method 566 371 (χ #[]) (kd prog 336 0)).run prog a=.ok (344,χ #[]) a:=by kernel_rfl
def Good(s:ByteArray):Prop:=
 rd s 16 8<=64/\wC (rd s 0 8:Int) (rd s 8 8:Int) (kB s (rd s 0 8:Int) (rd s 8 8:Int) 24 (rd s 16 8))=true/\∃bs,Lays bs (pV (rd s 0 8:Int) (rd s 8 8:Int) (kB s (rd s 0 8:Int) (rd s 8 8:Int) 24 (rd s 16 8)))/\strOf bs=s
end S
namespace S
theorem UE{bs:List Nat}(d:∀c∈bs,c<256)(b:Nat):DE (strOf bs) b=bs.getD b 0:=by unfold DE strOf;by_cases a:b<bs.length;{simp only[List.getD,List.getElem?_map,List.getElem?_eq_getElem a,Option.map_some,Option.getD_some];exact UInt8.toNat_ofNat_of_lt' (d _ (cF a))};simp[List.getD,List.getElem?_eq_none (Nat.le_of_not_lt a)]
theorem UF(bs:List Nat):(strOf bs).size=bs.length:=by show((bs.map UInt8.ofNat).toArray).size=_;simp
theorem plain_round{s:ByteArray}{k:Int}{u:Nat}{cs:List Cl}(g:∀d∈cs,yQ k d) :
 ∀a,a<=cs.length->At s u (iU k (cs.take a))->lR s k u a=(cs.take a,u+(iU k (cs.take a)).length):=by intro a;induction a with|zero=>(intro _ _;simp[lR,iU])|succ a i=>intro j b;have c:cs[a]?=σ cs[a]:=af (by omega);rw[gY c,sr,At.append]at b;have e:=i (by omega) b.1;have f:=NV (g _ (cF (show a<cs.length by omega))) b.2;rw[lR,e,gY c,sr];simp only[f,List.length_append];rw[gA]
theorem ahr(a:Cl)(d:List Cl):(a::d).take (fr (a::d))=List.replicate (fr (a::d)) a:=by have f:∀c:List Cl,c.take (c.takeWhile λb=>b.beq a).length=List.replicate (c.takeWhile λb=>b.beq a).length a:=(by intro c;induction c with|nil=>simp|cons b c g=>rw[gC];cases hb:b.beq a;{simp};have e:=(Cl.beq_iff b a).1 hb;subst e;simp only[if_true,List.length_cons,List.take_succ_cons,List.replicate_succ,g]);exact f (a::d)
theorem UG{s:ByteArray}{k:Int}{n:Nat}:∀(c:Nat) (d a:List Cl) (e:Nat),(∀b∈a,yQ k b)->d.length+a.length=n->a.length<=c->n<=255->At s e (oS k a)->lE s k n c d e=d++a:=by intro c;induction c with|zero=>(intro d a e _ _ v _ _;have:a=[]:=dC (by omega);subst this;simp[lE])|succ c w=>intro d a e g u v j i;cases a with|nil=>(rw[B5 _ _ _ _ _ _ (by simp at u;omega)];simp)|cons b a=>have z:=IX (cs:=b::a) (by simp);have x:=Xc (b::a);have y:(b::a).length=a.length+1:=(by simp);rw[xZ,At.append,At.append,bP]at i;obtain⟨⟨p,r⟩,f⟩:=i;have m:=mj p (by omega) (by omega);have o:=NV (g b (by simp)) r;rw[aw,bP,<- gA]at f;rw[lE,aF (by omega),m,o];simp only;rw[show fr (b::a) - 1+1=fr (b::a)by omega,gx (by omega),<- ahr];rw[w _ ((b::a).drop (fr (b::a))) _ (λl t=>g l (jo t)) ?_ ?_ j f];{rw[bN,iO]};{rw[aw,bV,bW];omega};rw[bW];omega
theorem Oe{s:ByteArray}{es cs:List Cl}{u:Nat}(f:∀e∈cs,known es e=true)(g:pw es.length<=64) :
 ∀a,a<=cs.length->At s u (lD es (cs.take a))->ke s es (pw es.length) u a=cs.take a:=by intro a;induction a with|zero=>(intro _ _;simp[ke])|succ a i=>intro j b;have c:cs[a]?=σ cs[a]:=af (by omega);rw[gY c,zP,At.append,wA,bV,gx (by omega)]at b;have d:=f _ (cF (show a<cs.length by omega));rw[ke,i (by omega) b.1,gY c,mj b.2 g (apC (DK d)),vJ,List.getD,Y6 d];rfl
theorem UH{a:List Cl}(l:∀b∈a,yQ x b)(o:a.length<=64)(d:At m w (x8 x a)):A5 m x w a.length=a:=by have n:=DJ a;unfold x8 at d;rw[At.append,At.append,bP,aw,bP]at d;obtain⟨⟨i,j⟩,k⟩:=d;have g:=mj i (by omega) (by omega);have e:=plain_round (s:=m) (k:=x) (u:=w+8) (cs:=pA a) (λb c=>l b (I6 c)) (pA a).length (ae _) (by rw[aL (ae _)];exact j);rw[aL (ae _)]at e;unfold A5;rw[g,e];have p:=Xe (pA a).length (by omega);have f:=Oe (s:=m) (es:=pA a) (cs:=a) (u:=w+8+(iU x (pA a)).length) (λb c=>I7 c) (by omega) a.length (ae _) (by rw[aL (ae _),gA];exact k);rw[aL (ae _)]at f;exact f
theorem Ca{s:ByteArray}{p:Nat}{a:Cl}(b:yQ x a)(f:a.null=false)(o:w<=64)(n:r<=a.n)(e:(a.n - r).toNat<2 ^ w)
 (d:At s p (if x=1 then bitsOf a.s.size 4++jZ 7 a.s.data.toList else bitsOf (a.n - r).toNat w)) :
 mJ s x r w p=(a,p+(if x=1 then bitsOf a.s.size 4++jZ 7 a.s.data.toList else bitsOf (a.n - r).toNat w).length):=by
 obtain⟨t,b⟩:=b;rw[aE (by rw[f];simp)]at b;unfold mJ;by_cases c:x=1
 .rw[aF c]at d ⊢;rw[aF c];rw[aE (by omega),aF c]at b;rw[At.append,bP]at d;have m:=mj d.1 (by omega) (by have:=b.2.1;omega);rw[m];have i:=FR (s:=s) (u:=p+4) (wd:=7) a.s.data.toList (by omega) (λl e=>by have:=(b.2.2 l e).2.1;omega) a.s.size (by rw[ji];omega)
   (by rw[aL (by rw[ji];omega)];exact d.2)
  rw[aL (by rw[ji];omega)]at i;rw[i];simp only[List.length_append,bP,lZ,ji];refine AQ (Cl.ext' f.symm b.1.symm rfl) (by show p+4+a.s.size*7=_;omega)
 rw[aE c]at d ⊢;rw[aE c];rw[mj d o e,ahp t n,bP];have k:a.s=ByteArray.empty:=(by by_cases g:x=0;{rw[aF g]at b;exact b};rw[aE g,aE c]at b;by_cases j:x=2;{rw[aF j]at b;exact b.1};rw[aE j]at b;exact b.elim);exact AQ (Cl.ext' f.symm rfl k.symm) rfl
theorem Lp{b:Cl}(g:yQ x b)(l:u=false->b.null=false)(k:w<=64)(d:b.null=false->r<=b.n/\(b.n - r).toNat<2 ^ w)
 (c:At m v (mI u x r w b)):kY m u x r w v=(b,v+(mI u x r w b).length):=by unfold mI at c ⊢;unfold kY;cases u;{have a:=l rfl;have e:¬b.null=true:=(by rw[a];simp);simp only[Bool.false_eq_true,if_false,List.nil_append]at c ⊢;rw[aE e]at c ⊢;exact Ca g a k (d a).1 (d a).2 c};simp only[if_true]at c ⊢;rw[At.append]at c;have i:sM m v=b.null:=(by have:=c.1 0 (by simp);simpa using this);cases a:b.null;{have e:¬b.null=true:=(by rw[a];simp);have j:=c.2;rw[aE e]at j;rw[i,a];simp only[Bool.false_eq_true,if_false];have:=Ca (s:=m) (p:=v+1) g a k (d a).1 (d a).2 (by simpa using j);rw[this,aw];simp only[List.length_cons,List.length_nil];rw[gA]};rw[i,a];have f:=g.2;rw[aF a]at f;simp only[if_true,List.append_nil,List.length_cons,List.length_nil];exact AQ (Cl.ext' a.symm f.1.symm f.2.symm) rfl
theorem Jf{s:ByteArray}{p:Nat}{b:List Cl}(k:∀c∈b,yQ x c)(m:u=false->∀c∈b,c.null=false)(n:w<=64)
 (l:∀c∈b,c.null=false->r<=c.n/\(c.n - r).toNat<2 ^ w) :
 ∀a,a<=b.length->At s p (fF u x r w (b.take a))->gR s u x r w p a=(b.take a,p+(fF u x r w (b.take a)).length):=by intro a;induction a with|zero=>(intro _ _;simp[gR,fF])|succ a o=>intro t e;have f:b[a]?=σ b[a]:=af (by omega);have d:=cF (show a<b.length by omega);rw[gY f,rV,At.append]at e;have i:=o (by omega) e.1;have j:=Lp (k _ d) (λg=>m g _ d) n (l _ d) e.2;rw[gR,i,gY f,rV];simp only[j,List.length_append];rw[gA]
theorem UI{b:List Cl}(g:∀a∈b,yQ x a)(k:At m w (x9 x b)):ye m x w b.length=b:=by
 have s:=A2 (λa i=>(g a i).1);have E:=uM s;have G:=Hp s;have F:=nC G;unfold x9 at k;rw[At.append,At.append]at k;obtain⟨⟨B,e⟩,d⟩:=k;have A:sM m w=b.any λa=>a.null:=(by have:=B 0 (by simp);simpa using this);have C:sx m x (w+1)=if x=1 then(0,0,w+1)else(leastOf (dT b),bitLen (od (dT b)),w+1+(qc (leastOf (dT b))++bitsOf (bitLen (od (dT b))) 7).length):=by
  unfold sx;by_cases c:x=1;{rw[aF c,aF c]};rw[aE c,aE c];rw[aE c]at e;simp only[List.length_cons,List.length_nil,Nat.zero_add]at e;rw[At.append]at e;have v:yQ 0 ⟨false,leastOf (dT b),ByteArray.empty⟩:=⟨E,by simp⟩;have l:ly 0 ⟨false,leastOf (dT b),ByteArray.empty⟩=qc (leastOf (dT b)):=(by simp[ly]);have n:=NV (s:=m) (u:=w+1) v (by rw[l];exact e.1);rw[l]at n;rw[n];simp only;rw[mj e.2 (by omega) (by have:(2:Nat) ^ 7=128:=(by decide);omega),aw,bP,gA (w+1)]
 have p:(b.any λa=>a.null)=false->∀a∈b,a.null=false:=(by intro i a f;have:=mA.1 i a f;simpa using this);have D:∀a∈b,a.null=false->leastOf (dT b)<=a.n/\(a.n - leastOf (dT b)).toNat<2 ^ bitLen (od (dT b)):=(by intro a f j;have o:=QD f j;have z:=I0 o;have H:=Um o;refine⟨z,dF ?_ (ET _)⟩;unfold od;omega);unfold ye;rw[A,C];by_cases c:x=1;{rw[aF c];rw[aF c]at d;simp only[List.append_nil,List.length_cons,List.length_nil,Nat.zero_add]at d;have y:∀r t,fF (b.any λa=>a.null) x r t b=fF (b.any λa=>a.null) x 0 0 b:=(by intro r t;unfold fF;congr 1;funext a;unfold mI;simp only[if_pos c]);rw[y]at d;have u:∀a∈b,a.null=false->(0:Int)<=a.n/\(a.n - 0).toNat<2 ^ 0:=(by intro a f j;have:=(g a f).2;rw[aE (by rw[j];simp),aE (by omega),aF c]at this;rw[this.1];simp);have:=Jf (s:=m) (p:=w+1) g p (by omega) u b.length (ae _) (by rw[aL (ae _)];exact d);rw[aL (ae _)]at this;simp only[this]};rw[aE c];rw[aE c]at d;rw[aw,aX,dA,gH,<- gA]at d;have:=Jf (s:=m) (p:=w+1+(qc (leastOf (dT b))++bitsOf (bitLen (od (dT b))) 7).length) g p F D b.length (ae _) (by rw[aL (ae _)];exact d);rw[aL (ae _)]at this;simp only[this]
theorem UJ{bs:List Nat}{a:List Cl}(f:Lays bs (pV x r a))(B:0<=x)(C:x<=3)(A:0<=r)(D:r<=2)(m:a.length<=64)(z:∀c∈a,cR c.n)(n:a.all (okB r)=true) :
 ((rd (strOf bs) 0 8:Nat):Int)=x/\((rd (strOf bs) 8 8:Nat):Int)=r/\rd (strOf bs) 16 8=a.length/\kB (strOf bs) x r 24 a.length=a/\Good (strOf bs):=by
 have d:∀c∈a,yQ r c:=λc l=>zO (z c l) (eV.1 n c l);have e:=f.at (strOf bs) (UE f.small);unfold pV at e;rw[At.append,At.append,At.append]at e;simp only[List.length_append,bP,Nat.zero_add]at e;obtain⟨⟨⟨v,w⟩,y⟩,b⟩:=e;have t:=mj v (by omega) (by omega);have u:=mj w (by omega) (by omega);have j:=mj y (by omega) (by omega);have g:((rd (strOf bs) 0 8:Nat):Int)=x:=by rw[t];omega
 have i:((rd (strOf bs) 8 8:Nat):Int)=r:=by rw[u];omega
 have k:kB (strOf bs) x r 24 a.length=a:=(by unfold kB;unfold body at b;by_cases o:x=1;{rw[aF o]at b ⊢;have:=UG (s:=strOf bs) (k:=r) (n:=a.length) a.length [] a 24 d (by simp) (ae _) (by omega) b;exact this};rw[aE o]at b ⊢;by_cases p:x=2;{rw[aF p]at b ⊢;exact UH d m b};rw[aE p]at b ⊢;by_cases s:x=3;{rw[aF s]at b ⊢;exact UI d b};rw[aE s]at b ⊢;have:=plain_round (s:=strOf bs) (k:=r) (u:=24) d a.length (ae _) (by rw[aL (ae _)];exact b);rw[aL (ae _)]at this;rw[this]);refine⟨g,i,j,k,?_⟩;unfold Good;rw[g,i,j,k];refine⟨m,?_,bs,f,rfl⟩;unfold wC;rw[n];simp;omega
end S
namespace S
theorem Zh{d:Option Addr}{a:List Cl}(c:p.ownsRow w 229 3 (ψ d v n) v (bJ a)):∃b,(0<a.length->d=σ ⟨b,0,ν⟩)/\nD p b 0 a:=by
 have m:a.length=v:=by have:=c.1;rw[uN]at this;omega
 by_cases i:0<v;{have⟨k,j,e,g,_⟩:=su c;obtain⟨b,rfl⟩:=g i;simp only[Value.slice.injEq]at e;obtain⟨rfl,-,rfl⟩:=e;exact⟨b,λ_=>rfl,A4 c⟩};refine⟨0,λc=>by omega,λo l f=>?_⟩;have:=(aj.1 f).1;omega
theorem UK(a:ByteArray)(c:ω)(p:a.size<=140737488351232) :
 Calls prog 154 #[θ a] c λe w'=>((Good a/\∃x,e=τ (.tuple #[ι κ (rd a 8 8:Int),x,ι κ 0])/\w'.ownsRow c.heap.size 229 3 x (rd a 16 8) (bJ (kB a (rd a 0 8:Int) (rd a 8 8:Int) 24 (rd a 16 8))))\/
  (¬Good a/\e=τ (.tuple #[ι κ 0,ψ ν 0 0,ι κ 2])))/\Below c.heap.size c w':=by
 have I:=au (show Good a↔(rd a 16 8<=64/\wC (rd a 0 8:Int) (rd a 8 8:Int) (kB a (rd a 0 8:Int) (rd a 8 8:Int) 24 (rd a 16 8))=true/\∃bs,Lays bs (pV (rd a 0 8:Int) (rd a 8 8:Int) (kB a (rd a 0 8:Int) (rd a 8 8:Int) 24 (rd a 16 8)))/\strOf bs=a)from Iff.rfl);have aC:=lC a 0 8;have av:=lC a 8 8;have ax:=lC a 16 8;have ar:(2:Nat) ^ 8=256:=by decide
 have a0:xY (c.alloc (ξ #[θ a,ι κ 0] 332)) c.heap.size a 0:=
  ⟨by rw[cM _ _ _ _ rfl];rfl,by rw[cM _ _ _ _ rfl];rfl,jG _ _ _ _ rfl⟩
 go_in;go_wp2_with fail;refine(oR c.heap.size a 0 _ _ a0 p (by omega) (by rw[show Int.toNat 8=8 from rfl];omega)).mono ?_;rintro e w2 ⟨rfl,g,k⟩;rw[show Int.toNat 8=8 from rfl]at *;have K8:=g;have ab:=(dh c (ξ #[θ a,ι κ 0] 332) (σ c.heap.size)).trans k;clear g k;generalize hPN:rd a 0 8=d at *;have an:=au hPN;clear hPN;have a4:d<256:=by omega
 go_wp2_with fail;refine(oR c.heap.size a (0+8) _ _ K8 p (by omega) (by rw[show Int.toNat 8=8 from rfl];omega)).mono ?_;rintro e w3 ⟨rfl,g,k⟩;rw[show Int.toNat 8=8 from rfl,show 0+8=8 from rfl]at *;have ao:=g;have ac:=ab.trans k;clear g k;generalize hKN:rd a 8 8=b at *;have X:=au hKN;clear hKN;have zR:b<256:=by omega
 go_wp2_with fail;refine(oR c.heap.size a (8+8) _ _ ao p (by omega) (by rw[show Int.toNat 8=8 from rfl];omega)).mono ?_;rintro e y ⟨rfl,g,k⟩;rw[show Int.toNat 8=8 from rfl,show 8+8=16 from rfl,show 16+8=24 from rfl]at *;have W:=ac.trans k;clear k;generalize hNN:rd a 16 8=n at *;have ad:=au hNN;clear hNN;have O:n<=255:=by omega
 clear aC av ax ar;go_wp2_with fail;refine(DN _ y).mono ?_;rintro e i ⟨rfl,rfl⟩;by_cases u:(d:Int)=1;(case' pos=>rw[aF u];have B:=au u;clear u;have l:=Tryz.alW;simp[kd,underlying336]at l;go_wp2_with fail;refine(N8 c.heap.size a 24 (b:Int) n y g p O (by omega)).mono ?_;rintro e i ⟨x,rfl,r,D⟩;have E:Hr a (b:Int) 24 n=kB a (d:Int) (b:Int) 24 n:=by unfold kB;rw[aF B.J]);(case' neg=>rw[aE u];have B:=au u;clear u;by_cases v:(d:Int)=2;(case' pos=>rw[aF v];have L:=au v;clear v;have l:=Tryz.alX;simp[kd,underlying336]at l;go_wp2_with fail;refine(N9 c.heap.size a 24 (b:Int) n y g p O (by omega)).mono ?_;rintro e i ⟨x,rfl,r,D⟩;have E:A5 a (b:Int) 24 n=kB a (d:Int) (b:Int) 24 n:=by unfold kB;rw[aE B.J,aF L.J]);case' neg=>rw[aE v];have L:=au v;clear v;by_cases w:(d:Int)=3;(case' pos=>rw[aF w];have T:=au w;clear w;have l:=Tryz.alY;simp[kd,underlying336]at l;go_wp2_with fail;refine(Ob c.heap.size a 24 (b:Int) n y g p O (by omega)).mono ?_;rintro e i ⟨x,rfl,r,D⟩;have E:ye a (b:Int) 24 n=kB a (d:Int) (b:Int) 24 n:=by unfold kB;rw[aE B.J,aE L.J,aF T.J]);case' neg=>rw[aE w];have T:=au w;clear w;have l:=Tryz.alZ;simp[kd,underlying336]at l;go_wp2_with fail;refine(Ll c.heap.size a 24 (b:Int) n y g p O (by omega)).mono ?_;rintro e i ⟨x,rfl,r,D⟩;have E:(lR a (b:Int) 24 n).1=kB a (d:Int) (b:Int) 24 n:=by unfold kB;rw[aE B.J,aE L.J,aE T.J]);all_goals
  rw[E]at r;clear l E;have o:=W.trans D;have C:=Od a (d:Int) (b:Int) 24 n;have IZ:=Je a (d:Int) (b:Int) 24 n;generalize hCS:kB a (d:Int) (b:Int) 24 n=cs at *;have aa:=au hCS;clear hCS;have Z:c.heap.size<=i.heap.size:=o.size;have U:Below c.heap.size c i:=⟨o.os,o.tape,o.output,o.size,λa2 hj=>o.block a2 hj (by simp;omega)⟩;have Q:=fj r (show c.heap.size<=y.heap.size from W.size);obtain⟨R,M,rfl,Ue,a1⟩:=su Q;have⟨Y,F,H⟩:=Zh Q;subst IZ;have Cw:=Q;clear r Q o D Ue;have P:∀m∈cs,cR m.n:=λm f=>(C m f).1;have G:∀m∈cs,m.s.size<=140737488351232:=λm f=>by have:=(C m f).2;omega
  by_cases N:cs.length<=64
  .cases lP:wC (d:Int) (b:Int) cs;{have z:Hid (¬Good a):=au (λf=>by have:=(I.J.1 f).2.1;rw[lP]at this;cases this);have A:=Zg (d:Int) (b:Int) cs R Y 0 M i F H N G lP;clear lP H F C P G;go_wp2_with fail;refine A.mono ?_;rintro e w6 ⟨rfl,s⟩;have K:=U.trans (s.mono Z);clear s;go_wp2;go_ret3;exact⟨.inr ⟨z.J,rfl⟩,K⟩}
   have j:=lP;unfold wC at j;simp only[Bool.and_eq_true,decide_eq_true_eq]at j;have A:=Mh (d:Int) (b:Int) cs R Y 0 M i F H a1 N P G j.1.1 j.1.2 j.2.1.1 j.2.1.2 j.2.2;have am:=au lP;clear lP j H F C P G;go_wp2_with fail;refine A.mono ?_;rintro e w6 ⟨⟨bs,V,rfl⟩,s⟩;have K:=U.trans (s.mono Z);have al:=Cw.kept (mX s) (by cases(Value.slice R cs.length M).ownBlock<;>simp);clear s;by_cases t:strOf bs=a;{have ap:Hid (Good a):=au (I.J.2 ⟨N,am.J,bs,V,t⟩);have aq:((strOf bs).toList==a.toList)=true:=(by rw[t];simp);clear t;go_wp2;go_ret3;refine⟨.inl ⟨ap.J,_,by rw[X.J];rfl,?_⟩,K⟩;rw[an.J,X.J,ad.J,aa.J];exact al}
   have z:Hid (¬Good a):=au (λf=>by
    have⟨a3,KN,Hc⟩:=(I.J.1 f).2.2;exact t (by rw[V.unique KN];exact Hc))
   have aq:((strOf bs).toList==a.toList)=false:=(by rw[aK];intro f;rw[iD,iD]at f;exact t (by cases hx:strOf bs;cases hy:a;rw[hx,hy]at f;congr 1;exact o7.1 f));clear t;go_wp2;go_ret3;exact⟨.inr ⟨z.J,rfl⟩,K⟩
  have z:Hid (¬Good a):=au (λf=>N (I.J.1 f).1);have A:=Zf (d:Int) (b:Int) cs.length R M i (by omega) (by omega);clear H F C P G;go_wp2_with fail;refine A.mono ?_;rintro e w6 ⟨rfl,rfl⟩;go_wp2;go_ret3;exact⟨.inr ⟨z.J,rfl⟩,U⟩
end S
