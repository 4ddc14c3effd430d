import Derived.Test.YtcoaphfimellcaaGreatDoorQAR
import Derived.Test.YtcoaphfimellcaaGreatDoorQAW
import Derived.Maps.RangeWalk
set_option maxHeartbeats 0
set_option maxRecDepth 100000
namespace Go.Proofs.YtcoaphfimellcaaGreatDoor
open Go.RowKit
open _root_.Go.Proofs.Tryz
open Option renaming some→σ,none→ν
open Go.IntKind renaming i64→κ
open Go.Ending renaming returned→τ
open Go.Obj renaming cells→ξ
open Go renaming World→ω,Value→υ
open Go.RowKit renaming Below→δ
open Go.Value renaming int→ι,string→θ,slice→ψ,pointer→π,agg→χ
variable{w v n i t s:Nat}{p:ω}{m:ByteArray}{x r:Int}{l:List Nat}{u:Bool}
namespace S
theorem wZ.kept{w':ω}{row:Option Nat}(a:wZ p w m v)(b:p.grownBy w' row)(c:σ w≠row):wZ w' w m v:=a.jM (b.block w a.lt c)
theorem RI(a:Nat)(e:a<18446744073709551616)(d:a % 2=1):wrap64 (bits BinOp.xor IntKind.u64 IntKind.u64.max ((a:Int) / 2))=qi a:=by
 have c:IntKind.u64.max=((18446744073709551615:Nat):Int):=by decide
 have b:(a:Int) / 2=((a / 2:Nat):Int):=by omega
 rw[b,c,u64_xor_nat _ _ (by omega) (by omega),N7 _ (by omega)];unfold qi;rw[aF d];unfold wrap64;omega
theorem RJ(a:Nat)(f:ω)(d:a<18446744073709551616):Calls prog 332 #[ι .u64 (a:Int)] f λg j=>g=τ (ι κ (qi a))/\f=j:=by have e:bits BinOp.and IntKind.u64 (a:Int) 1=((a % 2:Nat):Int):=(by have:=u64_and_nat a 1 d (by omega);rwa[uf]at this);by_cases c:a % 2=1;{have i:(bits BinOp.and IntKind.u64 (a:Int) 1==1)=true:=(by rw[e,c];rfl);have b:=ak (RI a d c);go_in;go_wp2;go_ret;exact⟨bn Ending.returned (bn (Value.int IntKind.i64) b.J),rfl⟩};have i:(bits BinOp.and IntKind.u64 (a:Int) 1==1)=false:=(by rw[e,show a % 2=0 by omega];rfl);have b:Hid ((a:Int) / 2=qi a):=ak (by unfold qi;rw[aE c];omega);go_in;go_wp2;go_ret;exact⟨bn Ending.returned (bn (Value.int IntKind.i64) b.J),rfl⟩
theorem EY(c:Nat)(a:ByteArray)(b:Nat)(d:ω)(m:wZ d c a b)(o:a.size<=140737488351232)(n:b+1<=1099511627776) :
 Calls prog 325 #[π (σ (Ad c 0))] d λf j=>f=τ (.bool (rL a b))/\wZ j c a (b+1)/\d.grownBy j (σ c):=by
 have l:rd a b 1=(rL a b).toNat:=by simp[rd]
 have k:=ak l;go_in;go_wp2_with fail;refine(oh c a b _ d m o (by omega) (by rw[show Int.toNat 1=1 from rfl];exact n)).mono ?_;rintro f p ⟨rfl,g,i⟩;rw[show Int.toNat 1=1 from rfl]at *;rw[k.J];cases hsb:rL a b;{have e:=ak hsb;go_wp2;go_ret;exact⟨by rw[e.J];rfl,g,i⟩};have e:=ak hsb;go_wp2;go_ret;exact⟨by rw[e.J];rfl,g,i⟩
theorem aap{bs:List UInt8}(b:p.ownsRow w 5 1 (ψ (σ (Ad v 0)) bs.length n) bs.length (Dx (bs.map UInt8.toNat))):(convert 68 9 (ψ (σ (Ad v 0)) bs.length n)).run prog p=.ok (θ ⟨bs.toArray⟩) p:=by rw[run_convert_bytes_string p 68 9 5 _ _ _ underlying68 underlying5 underlying9];have c:(loadCells (Ad v 0) bs.length).run prog p=.ok (((bs.map UInt8.toNat).map (λ(d:Nat)=>(d:Int))).map (Value.int .u8)).toArray p:=(by have:=run_loadCells_list (P:=prog) p (Ad v 0) (Dx (bs.map UInt8.toNat)) (b.cells rfl);rw[show(Dx (bs.map UInt8.toNat)).length=bs.length by simp[Dx]]at this;rw[this];simp[Dx,Function.comp_def]);rw[run_bytesToString p _ _ _ _ c,fold_push];have a:(bs.map UInt8.toNat).map UInt8.ofNat=bs:=(by rw[ig];exact(eO (λe _=>UInt8.ofNat_toNat)).trans (List.map_id _));rw[a];simp
theorem eD{c:ω}{row:Option Nat}(a:p.grownBy c row){b:Addr}(i:p.heap.size<=b.block)(e:υ):p.grownBy (c.setCell b e) row:=
 ⟨a.os,a.tape,a.output,by simpa[World.setCell]using a.size,λd f g=>(ay c b e d (by omega)).trans (a.block d f g)⟩
theorem aaq(a:List Nat)(b:Nat)(c:Nat):(Dx (a++List.replicate (b+1) 0)).set a.length (ι .u8 (c:Int))=Dx ((a++[c])++List.replicate b 0):=by simp[Dx,List.replicate_succ]
theorem Wo(a:Nat):(madeCells (Value.int .u8 0).cells (a*1)).toList=Dx (List.replicate a 0):=by
 have:∀b:Nat,[Value.int .u8 0][b % 1]?.getD default=Value.int .u8 0:=λb=>by rw[Nat.mod_one];rfl
 simp[madeCells,Dx,Value.cells,this,List.map_const']
theorem A4(f:Nat)(e:ByteArray)(d:Nat)(b c:Int)(g:ω)(i:wZ g f e d)(F:e.size<=140737488351232)(B:0<=b)(P:b<=1000)(C:0<=c)(Q:c<=64)(R:d<=549755813888) :
 Calls prog 331 #[π (σ (Ad f 0)),ι κ b,ι κ c] g λj w=>j=τ (θ ⟨(rdStr e d c.toNat b.toNat).toArray⟩)/\wZ w f e (d+b.toNat*c.toNat)/\g.grownBy w (σ f):=by
 obtain⟨b,rfl⟩:=iw B;obtain⟨c,rfl⟩:=iw C;rw[bN,bN];obtain⟨H,E,K,L,I⟩:=info_parts Tryz.agR;have m:=i;go_in;go_wp2_with(at_make;refine dV _ rfl _ _ 68 rfl g.heap.size 5 H (ι .u8 0) 1 underlying68 E K L _ _ _ _ b rfl rfl rfl rfl (by rw[I];omega) (by unfold maxLen;omega) (ae _) ?_;intro w1 r s);rw[Wo]at r;have z:=m.kept s (by simp);have x:=s.but (σ f);have X:f<g.heap.size:=m.lt;go_wp2;go_loopw[13] (λk wr=>∃a:Nat,a<=b/\k=ι κ a/\Hid (wr.ownsRow g.heap.size 5 1 (ψ (σ (Ad g.heap.size 0)) b b) b (Dx ((rdStr e d c a).map UInt8.toNat++List.replicate (b - a) 0)))/\Hid (wZ wr f e (d+a*c))/\Hid (g.grownBy wr (σ f))) (λk _=>b - (intOf k).toNat);case atStart=>exact⟨0,aK _,rfl,ak (by simpa[rdStr]using r),ak (by simpa using z),x⟩
 case round=>obtain⟨a,V,rfl,n,p,o⟩:=hrel;by_cases O:a<b;{have Z:(a:Int)<(b:Int):=(by omega);have W:a*c<=1000*64:=lj (by omega) (by omega);go_wp2_with fail;refine(oh f e (d+a*c) _ wr p.J F (by omega) (by rw[bN];omega)).mono ?_;rintro j M ⟨rfl,D,t⟩;rw[bN]at *;have l:=n.J.kept t (by simp[Value.ownBlock];omega);have N:(Dx ((rdStr e d c a).map UInt8.toNat++List.replicate (b - a) 0)).length=b:=(by simp[Dx,lK];omega);have T:M.cell? (Ad g.heap.size a)=σ (ι .u8 0):=(by rw[l.cellAt a (by omega),UC (by simp[lK];omega)];congr 2;simp[List.getD,lK,show 0<b - a by omega]);have U:=l.frozenAt a;have Y:=N4 e (d+a*c) c;generalize hV:rd e (d+a*c) c=v at *;have y:=ak hV;go_wp2_with fail;go_roundw;(case rel=>refine⟨a+1,by omega,by go_num,ak ?_,ak ?_,ak ?_⟩;{have i:=(l.stored a (ι .u8 ((v % 256:Nat):Int))).1;have j:=aaq ((rdStr e d c a).map UInt8.toNat) (b - (a+1)) (v % 256);rw[aQ,lK,show b - (a+1)+1=b - a by omega]at j;rw[j]at i;have A:(rdStr e d c (a+1)).map UInt8.toNat=(rdStr e d c a).map UInt8.toNat++[v % 256]:=(by rw[rdStr,dY,y.J];congr 1;simp only[List.map_cons,List.map_nil];rw[UInt8.toNat_ofNat_of_lt' (by have:=Nat.mod_lt v (show 0<256 by omega);exact this)]);rw[A];exact i};{have i:=D;rw[show d+(a+1)*c=d+a*c+c by rw[qy];omega];exact i.jM (ay _ _ _ _ (by show f≠g.heap.size;omega))};exact eD (o.J.trans t) (ae _) _);case measure=>simp[intOf];omega};obtain rfl:a=b:=(by omega);have u:=n.J;rw[da,dP,bQ]at u;have G:=aap (bs:=rdStr e d c a) (by rw[lK];exact u);rw[lK]at G;go_wp2;go_ret;exact⟨rfl,p.J,o.J⟩
theorem uB(e:Nat)(c:ByteArray)(a:Nat)(d:Int)(b:ω)(y:wZ b e c a)(s:c.size<=140737488351232)(T:a<=274877906944) :
 Calls prog 328 #[π (σ (Ad e 0)),ι κ d] b λn F=>n=τ (χ #[.bool (ec c d a).1.null,ι κ (ec c d a).1.n,θ (ec c d a).1.s])/\wZ F e c (ec c d a).2/\b.grownBy F (σ e):=by
 have I:=y.alloc (ru false 0 ByteArray.empty);have O:=y.lt;have U:=kU c a 8;go_in;go_wp2_with fail;refine(oh e c a _ _ I s (by omega) (by rw[show Int.toNat 8=8 from rfl];omega)).mono ?_;rintro n g ⟨rfl,r,i⟩;rw[show Int.toNat 8=8 from rfl]at *;have o:=r;have v:=(cR b _ (σ e)).trans i;have u:g.cell? (Ad b.heap.size 0)=σ (.bool false):=i.cell (by rw[cI _ _ _ _ rfl];rfl) (by simp;omega);have D:g.cell? (Ad b.heap.size 1)=σ (ι κ 0):=i.cell (by rw[cI _ _ _ _ rfl];rfl) (by simp;omega);have E:g.cell? (Ad b.heap.size 2)=σ (θ ByteArray.empty):=i.cell (by rw[cI _ _ _ _ rfl];rfl) (by simp;omega);have t:g.heap[b.heap.size]?=(b.alloc (ru false 0 ByteArray.empty)).heap[b.heap.size]?:=i.block _ (by simp) (by simp;omega);have L:g.frozen? (Ad b.heap.size 0)=false:=(cY (a:=(Ad b.heap.size 0)) t).trans (iX _ _ _ _ rfl);have M:g.frozen? (Ad b.heap.size 1)=false:=(cY (a:=(Ad b.heap.size 1)) t).trans (iX _ _ _ _ rfl);have N:g.frozen? (Ad b.heap.size 2)=false:=(cY (a:=(Ad b.heap.size 2)) t).trans (iX _ _ _ _ rfl);have j:=show ec c d a=(if rd c a 8=0 then(⟨true,0,ByteArray.empty⟩,a+8)else if d=1 then(⟨false,0,⟨(rdStr c (a+8) 8 (rd c a 8 - 1)).toArray⟩⟩,a+8+(rd c a 8 - 1)*8)else(⟨false,qi (rd c (a+8) (rd c a 8 - 1)),ByteArray.empty⟩,a+8+(rd c a 8 - 1)))from rfl
 generalize rd c a 8=m at *;by_cases z:m=0;(case' pos=>subst z;rw[aF rfl]at j;have p:=ak j;have A:=u;have B:=D;have C:=E;have w:=o;have x:=v);case' neg=>
  have V:((m:Int)==0)=false:=by rw[aL];omega
  rw[aE z]at j;by_cases l:d=1;(case' pos=>have K:(d==1)=true:=(by rw[l];rfl);rw[aF l]at j;clear l);(case' neg=>have K:(d==1)=false:=(by rw[aL];exact l);rw[aE l]at j;clear l);all_goals
   have p:=ak j;clear j;go_wp2_with fail;first
    |refine(A4 e c (a+8) _ _ g o s (by omega) (by omega) (by omega) (by omega) (by omega)).mono ?_
    |refine(oh e c (a+8) _ g o s (by omega) (by omega)).mono ?_
   rintro n G ⟨rfl,r,i⟩;have k:G.heap[b.heap.size]?=g.heap[b.heap.size]?:=i.block _ (bz _ _ u) (by simp;omega);have A:=(bZ (a:=(Ad b.heap.size 0)) k).trans u;have B:=(bZ (a:=(Ad b.heap.size 1)) k).trans D;have C:=(bZ (a:=(Ad b.heap.size 2)) k).trans E;have P:=(cY (a:=(Ad b.heap.size 0)) k).trans L;have Q:=(cY (a:=(Ad b.heap.size 1)) k).trans M;have R:=(cY (a:=(Ad b.heap.size 2)) k).trans N;(try rw[show Int.toNat 8=8 from rfl]at *);rw[show((m:Int) - 1).toNat=m - 1 by omega]at *;have w:=r;have x:=v.trans i;try
    have H:=N4 c (a+8) (m - 1);generalize rd c (a+8) (m - 1)=f at *;go_wp2_with fail;refine(RJ f G (by simpa using H)).mono ?_;rintro n W ⟨rfl,rfl⟩
 all_goals(go_wp2;refine aB (v:=χ #[.bool (ec c d a).1.null,ι κ (ec c d a).1.n,θ (ec c d a).1.s]) ?_ rfl ⟨rfl,?_,?_⟩;{rw[p.J];simp[results,results328,go_sem,A,B,C];try rfl};{rw[p.J];exact(w.jM (by rw[ay _ _ _ _ (by show e≠b.heap.size;omega),ay _ _ _ _ (by show e≠b.heap.size;omega),ay _ _ _ _ (by show e≠b.heap.size;omega)]))};exact eD (eD (eD x (ae _) _) (ae _) _) (ae _) _)
end S
namespace S
theorem Bx(b:ByteArray)(c:Int)(a:Nat):(ec b c a).2<=a+2048:=by
 have d:=kU b a 8;have e:(2:Nat) ^ 8=256:=by decide
 unfold ec;split;{simp};split;{show a+8+(rd b a 8 - 1)*8<=_;omega};show a+8+(rd b a 8 - 1)<=_;omega
def ly(s:ByteArray)(k:Int)(u:Nat):Nat->List Cl×Nat
 |0=>([],u)
 |n+1=>((ly s k u n).1++[(ec s k (ly s k u n).2).1],(ec s k (ly s k u n).2).2)
theorem uC(d:ByteArray)(c:Int)(e a:Nat):(ly d c e a).1.length=a:=by
 induction a with
 |zero=>rfl
 |succ a b=>simp[ly,b]
theorem L8(c:ByteArray)(b:Int)(d a:Nat):(ly c b d a).2<=d+a*2048:=by
 induction a with
 |zero=>simp[ly]
 |succ a e=>have:=Bx c b (ly c b d a).2;simp only[ly];omega
def mE:Cl:=⟨false,0,ByteArray.empty⟩
theorem xe(c:Nat):(madeCells (Value.agg #[.bool false,ι κ 0,θ ByteArray.empty]).cells (c*3)).toList=bI (List.replicate c mE):=by apply cB;intro a;have k:(Value.agg #[.bool false,ι κ 0,θ ByteArray.empty]).cells=#[.bool false,ι κ 0,θ ByteArray.empty]:=rfl;by_cases i:a<c*3;{have g:(List.replicate c mE)[a / 3]?=σ mE:=(by rw[df,aF (by omega)]);obtain⟨d,e,f⟩:=Hf g;have j:(madeCells #[.bool false,ι κ 0,θ ByteArray.empty] (c*3)).toList[a]?=σ (#[Value.bool false,ι κ 0,θ ByteArray.empty][a % 3]!):=(by simp[madeCells,i]);rw[k,j];have b:a % 3=0\/a % 3=1\/a % 3=2:=(by omega);rcases b with b|b|b;{rw[show a / 3*3=a by omega]at d;rw[d,b];rfl};{rw[show a / 3*3+1=a by omega]at e;rw[e,b];rfl};rw[show a / 3*3+2=a by omega]at f;rw[f,b];rfl};rw[aZ (by rw[dO,size_madeCells];omega),aZ (by rw[tJ,jt];omega)]
theorem rB(a b:List Cl):bI (a++b)=bI a++bI b:=by simp[bI,List.flatMap_append]
theorem Ws(a:List Cl)(d:Nat)(b c:Cl):(((bI (a++List.replicate (d+1) b)).set (a.length*3) (.bool c.null)).set (a.length*3+1) (ι κ c.n)).set (a.length*3+2) (θ c.s)=bI ((a++[c])++List.replicate d b):=by have e:bI (a++List.replicate (d+1) b)=bI a++([.bool b.null,ι κ b.n,θ b.s]++bI (List.replicate d b)):=(by rw[rB,gM];rfl);have f:bI ((a++[c])++List.replicate d b)=bI a++([.bool c.null,ι κ c.n,θ c.s]++bI (List.replicate d b)):=(by rw[cj,rB];rfl);have g:=tJ a;rw[e,f,<- g];rw[ef _ _ (ae _),ef _ _ (by omega),ef _ _ (by omega)];congr 1;rw[da,show(bI a).length+1 - (bI a).length=1 by omega,show(bI a).length+2 - (bI a).length=2 by omega];rfl
theorem yR{a:List Cl}{b c:Cl}(d:p.ownsRow w 229 3 (ψ (σ (Ad v 0)) n i) n (bI (a++List.replicate (t+1) b))) :
 (((p.setCell (Ad v (a.length*3)) (.bool c.null)).setCell (Ad v (a.length*3+1)) (ι κ c.n)).setCell (Ad v (a.length*3+2)) (θ c.s)).ownsRow w 229 3 (ψ (σ (Ad v 0)) n i) n (bI ((a++[c])++List.replicate t b)):=by rw[<- Ws a t b c];exact(((d.stored _ _).1.stored _ _).1.stored _ _).1
theorem sY{c:List Cl}{a:Cl}(b:p.ownsRow w 229 3 (ψ (σ (Ad v 0)) n i) n (bI (c++List.replicate (s+1) a)))(e:c.length=t) :
 (p.cell? (Ad v (t*3))=σ (.bool a.null)/\p.cell? (Ad v (t*3+1))=σ (ι κ a.n)/\p.cell? (Ad v (t*3+2))=σ (θ a.s))/\p.frozen? (Ad v (t*3))=false/\p.frozen? (Ad v (t*3+1))=false/\p.frozen? (Ad v (t*3+2))=false:=by
 have d:(c++List.replicate (s+1) a)[t]?=σ a:=by rw[bp (by omega),e,da];rfl
 have:=zR b t a d;rw[fK]at this;exact⟨this,b.frozenAt _,b.frozenAt _,b.frozenAt _⟩
theorem JM(g:Nat)(b:ByteArray)(e:Nat)(c:Int)(d:Nat)(f:ω)(o:wZ f g b e)(N:b.size<=140737488351232)(hn:d<=255)(hb:e<=1000000) :
 Calls prog 344 #[χ #[],π (σ (Ad g 0)),ι κ c,ι κ (d:Int)] f λw z=>∃y,w=τ y/\z.ownsRow f.heap.size 229 3 y d (bI (ly b c e d).1)/\f.grownBy z (σ g):=by
 obtain⟨O,M,Q,R,P⟩:=info_parts Tryz.Hh;have B:=o.alloc (ξ #[] 371);have U:=o.lt;clear o;go_in;go_wp2_with(at_make;refine dV _ rfl _ _ 230 rfl f.heap.size 229 O _ 3 underlying230 M Q R _ _ _ _ d rfl rfl rfl rfl (by rw[P];omega) (by unfold maxLen;omega) (by simp) ?_;intro w1 m n);rw[xe]at m;have u:=B.kept n (by simp);have A:=m;have E:=(cR f (ξ #[] 371) (σ g)).trans (n.but (σ g));have F:=u;clear m n u;go_wp2;go_loopw[15] (λi wr=>∃a:Nat,a<=d/\i=ι κ a/\Hid (wr.ownsRow f.heap.size 229 3 (ψ (σ (Ad (f.heap.size+1) 0)) d d) d (bI ((ly b c e a).1++List.replicate (d - a) mE)))/\Hid (wZ wr g b (ly b c e a).2)/\Hid (f.grownBy wr (σ g))) (λi _=>d - (intOf i).toNat);case atStart=>exact⟨0,aK _,rfl,ak (by simpa[ly]using A),ak (by simpa[ly]using F),E⟩
 case round=>obtain⟨a,V,rfl,s,H,t⟩:=hrel;by_cases Z:a<d;{have ju:(a:Int)<(d:Int):=(by omega);have L:=L8 b c e a;have I:a*2048<=255*2048:=gg _ (by omega);go_wp2_with fail;refine(uB g b _ c wr H.J N (by omega)).mono ?_;rintro w w2 ⟨rfl,x,p⟩;have k:=s.J.kept p (by simp[Value.ownBlock];omega);have l:=uC b c e a;rw[show d - a=(d - (a+1))+1 by omega]at k;obtain⟨⟨W,X,Y⟩,f0,f1,f2⟩:=sY k l;have j:=yR (c:=(ec b c (ly b c e a).2).1) k;rw[l]at j;have v:(ly b c e (a+1)).1=(ly b c e a).1++[(ec b c (ly b c e a).2).1]:=rfl;rw[<- v]at j;have G:Hid ((ly b c e (a+1)).2=(ec b c (ly b c e a).2).2):=ak rfl;have C:=x;have D:=t.J.trans p;generalize (ec b c (ly b c e a).2).1=i at *;have T:=j;clear x p k l v j L I;go_wp2_with fail;go_roundw;(case rel=>refine⟨a+1,by omega,by go_num,T,ak ?_,ak ?_⟩;{rw[G.J];exact C.jM (by rw[ay _ _ _ _ (by show g≠f.heap.size+1;omega),ay _ _ _ _ (by show g≠f.heap.size+1;omega),ay _ _ _ _ (by show g≠f.heap.size+1;omega)])};exact eD (eD (eD D (bE _) _) (bE _) _) (bE _) _);case measure=>simp[intOf];omega};obtain rfl:a=d:=(by omega);have r:=s.J;rw[da,dP,bQ]at r;have K:=ak r;clear r;go_wp2;go_ret;exact⟨_,rfl,K.J,t.J⟩
end S
namespace S
def kX(s:ByteArray)(k:Int)(n:Nat):Nat->List Cl->Nat->List Cl
 |0,l,_=>l
 |f+1,l,u=>if l.length<n then kX s k n f (l++List.replicate (min (rd s u 8+1) (n - l.length)) (ec s k (u+8)).1) (ec s k (u+8)).2 else l
def Ge(s:ByteArray)(k:Int)(u n:Nat):List Cl:=kX s k n n [] u
theorem A5(e:ByteArray)(d:Int)(c a:Nat)(b:List Cl)(f:Nat)(g:c<=b.length):kX e d c a b f=b:=by
 cases a with
 |zero=>rfl
 |succ a=>rw[kX,aE (by omega)]
theorem FH(j:ByteArray)(i:Int)(c:Nat):∀(a:Nat) (b:List Cl) (d:Nat),b.length<=c->c - b.length<=a->(kX j i c a b d).length=c:=by
 intro a
 induction a with
 |zero=>intro b d e f;rw[kX];omega
 |succ a g=>
   intro b d e f;rw[kX];split
   . apply g
     . rw[az,jt];omega
     . rw[az,jt];omega
   . omega
theorem L9(l:Nat)(e:ByteArray)(o:Nat)(i:Int)(a:Nat)(f:ω)(N:wZ f l e o)(Q:e.size<=140737488351232)(hn:a<=255)(hb:o<=1000000) :
 Calls prog 326 #[χ #[],π (σ (Ad l 0)),ι κ i,ι κ (a:Int)] f λy U=>∃p,y=τ p/\U.ownsRow f.heap.size 229 3 p a (bI (Ge e i o a))/\f.grownBy U (σ l):=by
 obtain⟨R,O,lC,T,kQ⟩:=info_parts Tryz.Hh;have V:=N.alloc (ξ #[] 368);have D4:=N.lt;go_in;go_wp2_with(at_make;refine wpList_make_own _ rfl _ _ 230 rfl f.heap.size 229 R _ 3 underlying230 O lC T _ _ _ a rfl rfl rfl (by rw[kQ];omega) (by unfold maxLen;omega) (by simp) ?_;intro w1 bS M);have Wq:=V.kept M (by simp);have X:=(cR f (ξ #[] 368) (σ l)).trans (M.but (σ l));go_wp2;go_loopw[9] (λp wr=>∃(b n g:Nat) (k:List Cl),Hid (k.length=b)/\b<=a/\a - b<=n/\g<=o+b*2060/\p=ψ (σ (Ad (f.heap.size+1) 0)) b a/\Hid (kX e i a n k g=Ge e i o a)/\Hid (wr.ownsRow f.heap.size 229 3 (ψ (σ (Ad (f.heap.size+1) 0)) b a) b (bI k))/\Hid (wZ wr l e g)/\Hid (f.grownBy wr (σ l))) (λp _=>a - lenOf p);case atStart=>exact⟨0,a,o,[],ak rfl,aK _,by omega,by omega,rfl,ak rfl,ak (by simpa[bI]using bS),Wq,X⟩
 case round=>
  obtain⟨b,n,g,k,v,aq,hf,A,rfl,E,G,L7,K⟩:=hrel;by_cases cL:b<a
  .have ju:(b:Int)<(a:Int):=(by omega);have ax:b*2060<=255*2060:=gg _ (by omega);obtain⟨n,rfl⟩:∃f',n=f'+1:=⟨n - 1,by omega⟩;go_wp2_with fail;refine(oh l e g _ wr L7.J Q (by omega) (by rw[show Int.toNat 8=8 from rfl];omega)).mono ?_;rintro y w2 ⟨rfl,z,s⟩;rw[show Int.toNat 8=8 from rfl]at *;have ar:=kU e g 8;have ap:(2:Nat) ^ 8=256:=(by decide);have Qz:Hid (kX e i a (n+1) k g=if k.length<a then kX e i a n (k++List.replicate (min (rd e g 8+1) (a - k.length)) (ec e i (g+8)).1) (ec e i (g+8)).2 else k):=ak rfl;generalize rd e g 8=D at *;have W:=z;have nU:=G.J.kept s (by simp[Value.ownBlock];omega);have Y:=K.J.trans s;have an:D<256:=(by omega);go_wp2_with fail;refine(uB l e (g+8) i w2 W Q (by omega)).mono ?_;rintro y m ⟨rfl,z,s⟩;have yu:=Bx e i (g+8);have L:=nU.kept s (by simp[Value.ownBlock];omega);have yn:=L;have Z:=Y.trans s;have av:f.heap.size+1<m.heap.size:=(L.lt (f.heap.size+1) rfl).2;generalize hC:(ec e i (g+8)).1=c at *;generalize hU:(ec e i (g+8)).2=u2 at *;have HC:=ak hC;have w:(m.alloc (ru c.null c.n c.s)).cell? (Ad m.heap.size 0)=σ (.bool c.null):=(by rw[cI _ _ _ _ rfl];rfl);have B:(m.alloc (ru c.null c.n c.s)).cell? (Ad m.heap.size 1)=σ (ι κ c.n):=(by rw[cI _ _ _ _ rfl];rfl);have C:(m.alloc (ru c.null c.n c.s)).cell? (Ad m.heap.size 2)=σ (θ c.s):=(by rw[cI _ _ _ _ rfl];rfl);have HQ:=ak (And.intro w (And.intro B C));have ad:=z.alloc (ru c.null c.n c.s);obtain⟨r,hm⟩:∃r:Nat,min (D+1) (a - b)=r:=⟨_,rfl⟩;have Ax:min ((D:Int)+1) ((a:Int) - (b:Int))=r:=(by omega);go_wp2_with fail;go_loopw[9,31] (λp x wr=>∃d:Nat,d<=r/\x=ι κ d/\p=ψ (σ (Ad (f.heap.size+1) 0)) (b+d) a/\Hid (wr.ownsRow f.heap.size 229 3 (ψ (σ (Ad (f.heap.size+1) 0)) (b+d) a) (b+d) (bI (k++List.replicate d c)))/\Hid (wr.cell? (Ad m.heap.size 0)=σ (.bool c.null)/\wr.cell? (Ad m.heap.size 1)=σ (ι κ c.n)/\wr.cell? (Ad m.heap.size 2)=σ (θ c.s))/\Hid (wZ wr l e u2)/\Hid (f.grownBy wr (σ l))) (λ_ x _=>r - (intOf x).toNat);(case atStart=>exact⟨0,aK _,rfl,rfl,ak (by simpa using yn.alloc _),HQ,ad,ak (Z.trans (cR _ _ _))⟩);case round=>
    obtain⟨d,j,rfl,rfl,H,ab,I,F⟩:=hrel;by_cases RE:d<r
    .have am:(d:Int)<r:=(by omega);obtain⟨w,B,C⟩:=ab.J;have lx:m.heap.size<wr.heap.size:=bz _ _ w;go_wp2_with(at_builtin;refine wpList_append_fits _ rfl _ _ 230 rfl f.heap.size 229 R 3 underlying230 O T (f.heap.size+1) (b+d) a _ rfl (H.J.alloc _) (Ad wr.heap.size 0) 1 1 [.bool c.null,ι κ c.n,θ c.s] rfl rfl ?c1 ?c2 (by omega) ?_);case c1=>
      intro d o j
      match d,j with
      |0,j=>simp at j;subst j;simp[Addr.add]
      |1,j=>simp at j;subst j;simp[Addr.add]
      |2,j=>simp at j;subst j;simp[Addr.add]
     (case c2=>intro o A;simp at A;rcases A with rfl|rfl|rfl<;>rfl);intro w5 al RM;have u:=(cR wr (ru c.null c.n c.s) (σ (f.heap.size+1))).trans RM;have ZN:=al;have aa:=ak (And.intro (u.cell w (by simp;omega)) (And.intro (u.cell B (by simp;omega)) (u.cell C (by simp;omega))));have ac:=I.J.kept u (by simp;omega);have YZ:=F.J.andThen u (λao hg=>by cases hg;omega);go_wp2;go_roundw;(case rel=>refine⟨d+1,by omega,by go_num,rfl,ak ?_,aa,ac,YZ⟩;have P:=ZN;rw[<- EW,cj]at P;rw[show List.replicate (d+1) c=List.replicate d c++[c]from List.replicate_succ'];exact P);case measure=>simp[intOf];omega
    obtain rfl:d=r:=(by omega);go_wp2_with fail;go_roundw;(case rel=>refine⟨b+d,n,u2,k++List.replicate d c,ak (by rw[az,jt,v.J]),by omega,by omega,by rw[nY];omega,rfl,ak ?_,H,I,F⟩;have t:=Qz.J.symm.trans E.J;rw[aF (by rw[v.J];exact cL),v.J,hm]at t;exact t);case measure=>show a - (b+d)<a - b;omega
  obtain rfl:b=a:=(by omega);go_wp2;go_ret;refine⟨_,rfl,?_,K.J⟩;have t:=E.J;rw[A5 _ _ _ _ _ _ (by rw[v.J];omega)]at t;rw[<- t];exact G.J
end S
namespace S
def uD(es:List Cl)(q:Nat):Cl:=es.getD q mE
def jy(s:ByteArray)(es:List Cl)(wd u:Nat):Nat->List Cl
 |0=>[]
 |n+1=>jy s es wd u n++[uD es (rd s (u+n*wd) wd)]
theorem vM(d:ByteArray)(b:List Cl)(f e a:Nat):(jy d b f e a).length=a:=by
 induction a with
 |zero=>rfl
 |succ a c=>simp[jy,c]
def zS(s:ByteArray)(k:Int)(u n:Nat):List Cl:=
 jy s (ly s k (u+8) (rd s u 8)).1 (pw (rd s u 8)) (ly s k (u+8) (rd s u 8)).2 n
theorem Wu(b:List Cl)(c:Nat)(a:Cl):b++List.replicate (c+1) a=(b++[a])++List.replicate c a:=by rw[cj];rfl
theorem Mc(f:Nat)(a:ByteArray)(c:Nat)(d:Int)(i:Nat)(g:ω)(M:wZ g f a c)(y:a.size<=140737488351232)(hn:i<=255)(hb:c<=1000000) :
 Calls prog 336 #[χ #[],π (σ ⟨f,0,ν⟩),ι κ d,ι κ (i:Int)] g λu W=>∃V,u=τ V/\W.ownsRow g.heap.size 229 3 V i (bI (zS a d c i))/\g.grownBy W (σ f):=by
 obtain⟨Q,P,T,U,R⟩:=info_parts Tryz.Hh;have Z:=M.alloc (ξ #[] 369);have D4:=M.lt;go_in;go_wp2_with fail;refine(oh f a c _ _ Z y (by omega) (by rw[show Int.toNat 8=8 from rfl];omega)).mono ?_;rintro u l ⟨rfl,v,m⟩;rw[show Int.toNat 8=8 from rfl]at *;have a4:=kU a c 8;have aq:(2:Nat) ^ 8=256:=by decide
 have Oi:Hid (zS a d c i=jy a (ly a d (c+8) (rd a c 8)).1 (pw (rd a c 8)) (ly a d (c+8) (rd a c 8)).2 i):=ak rfl;generalize rd a c 8=k at *;have a1:k<=255:=by omega
 have Wv:=v;have ac:=(cR g (ξ #[] 369) (σ f)).trans m;have a5:g.heap.size+1<=l.heap.size:=by have:=m.size;simpa using this
 go_wp2_with(at_make;refine dV _ rfl _ _ 230 rfl g.heap.size 229 Q _ 3 underlying230 P T U _ _ _ _ k rfl rfl rfl rfl (by rw[R];omega) (by unfold maxLen;omega) (by omega) ?_;intro w1 t n);rw[xe]at t;have Y:=t;have HG:=ac.trans (n.but (σ f));have HR:=Wv.kept n (by simp);go_wp2;go_loopw[20] (λj wr=>∃b:Nat,b<=k/\j=ι κ b/\Hid (wr.ownsRow g.heap.size 229 3 (ψ (σ ⟨l.heap.size,0,ν⟩) k k) k (bI ((ly a d (c+8) b).1++List.replicate (k - b) mE)))/\Hid (wZ wr f a (ly a d (c+8) b).2)/\Hid (g.grownBy wr (σ f))) (λj _=>k - (intOf j).toNat);case atStart=>exact⟨0,aK _,rfl,ak (by simpa[ly]using Y),ak (by simpa[ly]using HR),HG⟩
 case round=>
  obtain⟨b,Jg,rfl,F,I,H⟩:=hrel;by_cases cL:b<k;{have ju:(b:Int)<(k:Int):=(by omega);have a0:=L8 a d (c+8) b;have LG:b*2048<=255*2048:=gg _ (by omega);go_wp2_with fail;refine(uB f a _ d wr I.J y (by omega)).mono ?_;rintro u w2 ⟨rfl,v,m⟩;have z:=F.J.kept m (by simp[Value.ownBlock];omega);have s:=uC a d (c+8) b;rw[show k - b=(k - (b+1))+1 by omega]at z;obtain⟨⟨c0,c1,c2⟩,f0,f1,f2⟩:=sY z s;have r:=yR (c:=(ec a d (ly a d (c+8) b).2).1) z;rw[s]at r;have Y3:(ly a d (c+8) (b+1)).1=(ly a d (c+8) b).1++[(ec a d (ly a d (c+8) b).2).1]:=rfl;rw[<- Y3]at r;have ao:Hid ((ly a d (c+8) (b+1)).2=(ec a d (ly a d (c+8) b).2).2):=ak rfl;have H4:=v;have H5:=H.J.trans m;generalize (ec a d (ly a d (c+8) b).2).1=j at *;have A:=r;go_wp2_with fail;go_roundw;(case rel=>refine⟨b+1,by omega,by go_num,A,ak ?_,ak ?_⟩;{rw[ao.J];exact H4.jM (by rw[ay _ _ _ _ (by show f≠l.heap.size;omega),ay _ _ _ _ (by show f≠l.heap.size;omega),ay _ _ _ _ (by show f≠l.heap.size;omega)])};exact eD (eD (eD H5 (by show g.heap.size<=l.heap.size;omega) _) (by show g.heap.size<=l.heap.size;omega) _) (by show g.heap.size<=l.heap.size;omega) _);case measure=>simp[intOf];omega}
  rename ω=>wa
  obtain rfl:b=k:=by omega
  have o:=F.J;rw[da,dP,bQ]at o;have ar:=uC a d (c+8) b;have a2:=L8 a d (c+8) b;have LG:b*2048<=255*2048:=gg _ (by omega);generalize hES:(ly a d (c+8) b).1=es at *;generalize hP:(ly a d (c+8) b).2=p at *;have Y5:p<=2000000:=by omega
  have al:=o;have D:=ak ar;have Cq:l.heap.size<wa.heap.size:=(o.lt l.heap.size rfl).2;go_wp2_with fail;refine(yP b _ (by omega)).mono ?_;rintro u w3 ⟨rfl,rfl⟩;have Y1:=UG b (by omega);generalize pw b=wd at *;go_wp2_with(at_make;refine dV _ rfl _ _ 230 rfl g.heap.size 229 Q _ 3 underlying230 P T U _ _ _ _ i rfl rfl rfl rfl (by rw[R];omega) (by unfold maxLen;omega) (by omega) ?_;intro w4 t n);rw[xe]at t;have aa:=al.kept n (by simp[Value.ownBlock]);have ad:=H.J.trans (n.but (σ f));have am:=I.J.kept n (by simp);go_wp2;go_loopw[37] (λj wr=>∃e:Nat,e<=i/\j=ι κ e/\Hid (wr.ownsRow g.heap.size 229 3 (ψ (σ ⟨l.heap.size,0,ν⟩) b b) b (bI es))/\Hid (wr.ownsRow g.heap.size 229 3 (ψ (σ ⟨wa.heap.size,0,ν⟩) i i) i (bI (jy a es wd p e++List.replicate (i - e) mE)))/\Hid (wZ wr f a (p+e*wd))/\Hid (g.grownBy wr (σ f))) (λj _=>i - (intOf j).toNat)
  case atStart=>exact⟨0,aK _,rfl,aa,ak (by simpa[jy]using t),ak (by simpa using am),ad⟩
  case round=>
   obtain⟨e,hj,rfl,ab,B,an,E⟩:=hrel;by_cases RE:e<i
   . have aC:(e:Int)<(i:Int):=by omega
     have a3:e*wd<=255*8:=lj (by omega) (by omega);go_wp2_with fail;refine(oh f a _ _ wr an.J y (by omega) (by rw[bN];omega)).mono ?_;rintro u X ⟨rfl,v,m⟩;rw[bN]at *;have ax:=kU a (p+e*wd) wd;have a8:2 ^ wd<=2 ^ 8:=dU (by omega) Y1;have aq:(2:Nat) ^ 8=256:=by decide
     have K:Hid (jy a es wd p (e+1)=jy a es wd p e++[uD es (rd a (p+e*wd) wd)]):=ak rfl;generalize rd a (p+e*wd) wd=q at *;have hq:q<256:=by omega
     have O:=ab.J.kept m (by simp[Value.ownBlock];omega);have w:=B.J.kept m (by simp[Value.ownBlock];omega);rw[show i - e=(i - (e+1))+1 by omega]at w;have s:=vM a es wd p e;have G:Hid (wZ X f a (p+(e+1)*wd)):=ak (by rw[qy,<- iH];exact v);have L:=E.J.trans m;have C:=O;have a6:wa.heap.size<X.heap.size:=(w.lt wa.heap.size rfl).2;by_cases av:q<b
     . have ap:(q:Int)<(b:Int):=by omega
       obtain⟨⟨c0,c1,c2⟩,f0,f1,f2⟩:=sY w s;obtain⟨j,N⟩:∃j,es[q]?=σ j:=⟨es[q]'(by rw[D.J];exact av),af _⟩;obtain⟨d0,d1,d2⟩:=zR O q j N;rw[fK]at d0 d1 d2;have r:=yR (c:=j) w;rw[s]at r;have A:=r;have x:Hid (uD es q=j):=ak (by simp[uD,N]);go_wp2_with fail;go_roundw
       case rel=>
        refine⟨e+1,by omega,by go_num,ak ?_,ak ?_,ak ?_,ak ?_⟩
        . exact((C.kept (grownBy_setCell _ ⟨wa.heap.size,_,ν⟩ _) (by simp[Value.ownBlock];omega)).kept (grownBy_setCell _ ⟨wa.heap.size,_,ν⟩ _) (by simp[Value.ownBlock];omega)).kept (grownBy_setCell _ ⟨wa.heap.size,_,ν⟩ _) (by simp[Value.ownBlock];omega)
        . rw[K.J,x.J];exact A
        . exact G.J.jM (by rw[ay _ _ _ _ (by show f≠wa.heap.size;omega),ay _ _ _ _ (by show f≠wa.heap.size;omega),ay _ _ _ _ (by show f≠wa.heap.size;omega)])
        . exact eD (eD (eD L (by show g.heap.size<=wa.heap.size;omega) _) (by show g.heap.size<=wa.heap.size;omega) _) (by show g.heap.size<=wa.heap.size;omega) _
       case measure=>simp[intOf];omega
     . have ap:(b:Int)<=(q:Int):=by omega
       have x:Hid (uD es q=mE):=ak (by rw[uD,List.getD,aZ (by rw[D.J];omega)];rfl);go_wp2_with fail;go_roundw
       case rel=>
        refine⟨e+1,by omega,by go_num,C,ak ?_,G,L⟩;rw[K.J,x.J,<- Wu];exact w
       case measure=>simp[intOf];omega
   . obtain rfl:e=i:=by omega
     have o:=B.J;rw[da,dP,bQ]at o;have Ni:=ak o;go_wp2;go_ret;exact⟨_,rfl,by rw[Oi.J];exact Ni.J,E.J⟩
end S
namespace S
def Oj(least:Int)(v:Nat):Int:=wrap64 (least+(v:Int))
theorem aeY(a:Int)(b:Nat):cK (Oj a b):=by unfold Oj wrap64 cK;omega
theorem aeZ(b:cK r)(a:x<=r):Oj x (r - x).toNat=r:=by unfold Oj;rw[show x+((r - x).toNat:Int)=r by omega];unfold wrap64 cK at *;omega
def me(s:ByteArray)(k least:Int)(width p:Nat):Cl×Nat:=
 if k=1 then(⟨false,0,⟨(rdStr s (p+4) 7 (rd s p 4)).toArray⟩⟩,p+4+rd s p 4*7)else(⟨false,Oj least (rd s p width),ByteArray.empty⟩,p+width)
def j8(s:ByteArray)(dx:Bool)(k least:Int)(width p:Nat):Cl×Nat:=
 if dx then(if rL s p then(⟨true,0,ByteArray.empty⟩,p+1)else me s k least width (p+1))else me s k least width p
theorem A6(b:ByteArray)(d e:Int)(c a:Nat)(i:c<=127):(me b d e c a).2<=a+127:=by
 have f:=kU b a 4;have g:(2:Nat) ^ 4=16:=by decide
 unfold me;split;{show a+4+rd b a 4*7<=_;omega};show a+c<=_;omega
theorem JN(e:ByteArray)(g:Bool)(c d:Int)(b a:Nat)(f:b<=127):(j8 e g c d b a).2<=a+128:=by have i:=A6 e c d b a f;have j:=A6 e c d b (a+1) f;unfold j8;split;{split;{show a+1<=_;omega};omega};omega
def fT(s:ByteArray)(dx:Bool)(k least:Int)(width p:Nat):Nat->List Cl×Nat
 |0=>([],p)
 |n+1=>((fT s dx k least width p n).1++[(j8 s dx k least width (fT s dx k least width p n).2).1],(j8 s dx k least width (fT s dx k least width p n).2).2)
theorem yS(g:ByteArray)(b:Bool)(d e:Int)(i f a:Nat):(fT g b d e i f a).1.length=a:=by
 induction a with
 |zero=>rfl
 |succ a c=>simp[fT,c]
theorem RN(g:ByteArray)(c:Bool)(d e:Int)(b f a:Nat)(i:b<=127):(fT g c d e b f a).2<=f+a*128:=by
 induction a with
 |zero=>simp[fT]
 |succ a j=>have:=JN g c d e b (fT g c d e b f a).2 i;simp only[fT];omega
def rC(s:ByteArray)(k:Int)(u:Nat):Int×Nat×Nat:=
 if k=1 then(0,0,u)else((ec s 0 u).1.n,rd s (ec s 0 u).2 7,(ec s 0 u).2+7)
def xg(s:ByteArray)(k:Int)(u n:Nat):List Cl:=
 (fT s (rL s u) k (rC s k (u+1)).1 (rC s k (u+1)).2.1 (rC s k (u+1)).2.2 n).1
theorem Md(b:List Cl)(d:Nat)(a:Cl)(c:Nat)(i:c<3)(e:υ):(bI (b++List.replicate (d+1) a)).set (b.length*3+c) e=bI b++(([.bool a.null,ι κ a.n,θ a.s]:List υ).set c e++bI (List.replicate d a)):=by have f:bI (b++List.replicate (d+1) a)=bI b++([.bool a.null,ι κ a.n,θ a.s]++bI (List.replicate d a)):=(by rw[rB,gM];rfl);have g:=tJ b;rw[f,<- g,ef _ _ (by omega),show(bI b).length+c - (bI b).length=c by omega,List.set_append_left _ _ (by simpa using i)]
theorem By(b:List Cl)(d:Nat)(c a:Cl):bI ((b++[a])++List.replicate d c)=bI b++([.bool a.null,ι κ a.n,θ a.s]++bI (List.replicate d c)):=by rw[cj,rB];rfl
theorem Ol{a:List Cl}(e:a.length=t)(d:p.ownsRow w 229 3 (ψ (σ ⟨v,0,ν⟩) n i) n (bI (a++List.replicate (s+1) mE))) :
 (p.setCell ⟨v,t*3,ν⟩ (.bool true)).ownsRow w 229 3 (ψ (σ ⟨v,0,ν⟩) n i) n (bI ((a++[⟨true,0,ByteArray.empty⟩])++List.replicate s mE)):=by have b:=Md a s mE 0 (by omega) (.bool true);rw[e,show t*3+0=t*3 from rfl]at b;rw[By];have c:=(d.stored (t*3) (.bool true)).1;rw[b]at c;exact c
theorem RO{a:List Cl}(f:a.length=t)(b:Int)(e:p.ownsRow w 229 3 (ψ (σ ⟨v,0,ν⟩) n i) n (bI (a++List.replicate (s+1) mE))) :
 (p.setCell ⟨v,t*3+1,ν⟩ (ι κ b)).ownsRow w 229 3 (ψ (σ ⟨v,0,ν⟩) n i) n (bI ((a++[⟨false,b,ByteArray.empty⟩])++List.replicate s mE)):=by have c:=Md a s mE 1 (by omega) (ι κ b);rw[f]at c;rw[By];have d:=(e.stored (t*3+1) (ι κ b)).1;rw[c]at d;exact d
theorem RP{a:List Cl}(f:a.length=t)(b:ByteArray)(e:p.ownsRow w 229 3 (ψ (σ ⟨v,0,ν⟩) n i) n (bI (a++List.replicate (s+1) mE))) :
 (p.setCell ⟨v,t*3+2,ν⟩ (θ b)).ownsRow w 229 3 (ψ (σ ⟨v,0,ν⟩) n i) n (bI ((a++[⟨false,0,b⟩])++List.replicate s mE)):=by have c:=Md a s mE 2 (by omega) (θ b);rw[f]at c;rw[By];have d:=(e.stored (t*3+2) (θ b)).1;rw[c]at d;exact d
theorem ae0(c:Bool)(a:Int)(d:ByteArray)(b:ω):(Instr.field 229 (χ #[.bool c,ι κ a,θ d]) 1).run prog b=.ok (ι κ a) b:=by kernel_rfl
theorem aat(a:Int)(b:Nat):wrap64 (IntKind.u64.wrap (IntKind.u64.wrap a+(b:Int)))=Oj a b:=by unfold Oj wrap64;rw[gG,gG];omega
theorem Me(m:Nat)(a:ByteArray)(j:Nat)(b:Int)(d:Nat)(s:ω)(L:wZ s m a j)(w:a.size<=140737488351232)(hn:d<=255)(hb:j<=1000000) :
 Calls prog 339 #[χ #[],π (σ ⟨m,0,ν⟩),ι κ b,ι κ (d:Int)] s λu w'=>∃aa,u=τ aa/\w'.ownsRow s.heap.size 229 3 aa d (bI (xg a b j d))/\s.grownBy w' (σ m):=by
 obtain⟨i0,hi,lC,lI,kQ⟩:=info_parts Tryz.Hh;have ab:=ak (L.alloc (ξ #[] 370));have D4:=L.lt;clear L;go_in;go_wp2_with fail;refine(EY m a j _ ab.J w (by omega)).mono ?_;rintro u O ⟨rfl,n,k⟩;have r:Hid (xg a b j d=(fT a (rL a j) b (rC a b (j+1)).1 (rC a b (j+1)).2.1 (rC a b (j+1)).2.2 d).1):=ak rfl;generalize rL a j=dx at *;have H:=ak n;have E:=ak ((cR s (ξ #[] 370) (σ m)).trans k);clear n k;by_cases v:b=1;(case' pos=>have t1:(b != 1)=false:=(by simp[v]);have t2:(b==1)=true:=(by simp[v]);obtain⟨f,e,l,AP,al,G,Q⟩:∃(f:Int) (e l:Nat),l<=2000000/\e<=127/\wZ O m a l/\Hid (xg a b j d=(fT a dx b f e l d).1):=⟨0,0,j+1,by omega,by omega,H.J,ak (r.J.trans (by unfold rC;rw[aF v]))⟩;have F:=E.J;clear H E;generalize O=C at *);(case' neg=>have t1:(b != 1)=true:=(by simp[v]);have t2:(b==1)=false:=(by simp[v]);have hF:rC a b (j+1)=_:=aE v;replace r:=r.J;rw[hF]at r;clear hF;replace r:=ak r;go_wp2_with fail;refine(uB m a (j+1) 0 O H.J w (by omega)).mono ?_;rintro u w9 ⟨rfl,n,k⟩;have yu:=Bx a 0 (j+1);generalize (ec a 0 (j+1)).1=c9 at *;generalize (ec a 0 (j+1)).2=p9 at *;have am:=ae0 c9.null c9.n c9.s;go_wp2_with fail;refine(oh m a p9 _ w9 n w (by omega) (by rw[show Int.toNat 7=7 from rfl];omega)).mono ?_;rintro u C ⟨rfl,G,y⟩;rw[show Int.toNat 7=7 from rfl]at *;have EZ:=kU a p9 7;have ao:(2:Nat) ^ 7=128:=(by decide);generalize rd a p9 7=e at *;have al:e<=127:=(by omega);obtain⟨l,M⟩:=nm (p9+7);have AP:l<=2000000:=(by omega);rw[<- M]at G r;have Q:=r;have F:=(E.J.trans k).trans y;generalize c9.n=f at *;clear n k y EZ ao am M);all_goals
  have qW:=ak v;have av:=F.size;clear v r;go_wp2_with(at_make;refine dV _ rfl _ _ 230 rfl s.heap.size 229 i0 _ 3 underlying230 hi lC lI _ _ _ _ d rfl rfl rfl rfl (by rw[kQ];omega) (by unfold maxLen;omega) (by omega) ?_;intro w1 T I);rw[xe]at T;have HG:=F.trans (I.but (σ m));have HR:=G.kept I (by simp);clear I;go_wp2;go_loopw[28] (λK wr=>∃c:Nat,c<=d/\K=ι κ c/\wr.ownsRow s.heap.size 229 3 (ψ (σ ⟨C.heap.size,0,ν⟩) d d) d (bI ((fT a dx b f e l c).1++List.replicate (d - c) mE))/\wZ wr m a (fT a dx b f e l c).2/\s.grownBy wr (σ m)) (λK _=>d - (intOf K).toNat);case atStart=>exact⟨0,aK _,rfl,by simpa[fT]using T,by simpa[fT]using HR,HG⟩
  case round=>
   obtain⟨c,Jg,rfl,g,p,t⟩:=hrel;by_cases cL:c<d
   .have ju:(c:Int)<(d:Int):=(by omega);have ac:=RN a dx b f e l c (by omega);have LG:c*128<=255*128:=gg _ (by omega);have P:=yS a dx b f e l c;have R:Hid (fT a dx b f e l (c+1)=((fT a dx b f e l c).1++[(j8 a dx b f e (fT a dx b f e l c).2).1],(j8 a dx b f e (fT a dx b f e l c).2).2)):=ak rfl;generalize (fT a dx b f e l c).1=A at *;generalize (fT a dx b f e l c).2=q at *;have FF:q<=4000000:=(by omega);have x:=ak P;clear ac LG P;rcases(show dx=false\/(dx=true/\rL a q=false)\/(dx=true/\rL a q=true)by cases dx<;>cases rL a q<;>simp)with rfl|⟨rfl,D⟩|⟨rfl,D⟩
    (case' inl=>obtain⟨i,B,o⟩:∃i,Hid (i=q)/\Hid (j8 a false b f e q=me a b f e i):=⟨_,ak rfl,ak rfl⟩;rw[<- B.J]at p);(case' inr.inl|inr.inr=>obtain⟨i,B,o⟩:∃i,Hid (i=q+1)/\Hid (j8 a true b f e q=if rL a q then(⟨true,0,ByteArray.empty⟩,i)else me a b f e i):=⟨_,ak rfl,ak rfl⟩;go_wp2_with fail;refine(EY m a q _ p w (by omega)).mono ?_;rintro u w5 ⟨rfl,n,k⟩;replace g:=g.kept k (by simp[Value.ownBlock];omega);replace t:=t.trans k;replace p:=n;rw[<- B.J]at p;replace o:=o.J;rw[D]at o;replace o:=ak o);all_goals
     have M:i<=4000001:=(by have:=B.J;omega)
     (try
       have hx:rL a q=true:=by exact D
       rw[show d - c=(d - (c+1))+1 by omega]at g;obtain⟨⟨U,V,W⟩,X,Y,Z⟩:=sY g x.J;have N:=Ol x.J g)
     go_wp2_with fail
     (try first
       | (have hx:Hid (b=1):=by exact qW
          refine(oh m a i _ _ p w (by omega) (by rw[show Int.toNat 4=4 from rfl];omega)).mono ?_;rintro u w6 ⟨rfl,n,k⟩;rw[show Int.toNat 4=4 from rfl]at *
          replace o:=ak (o.J.trans (aF hx.J));have ap:=kU a i 4;have an:(2:Nat) ^ 4=16:=by decide
          generalize rd a i 4=z at *;have aq:z<=15:=by omega
          go_wp2_with fail;refine(A4 m a _ _ _ _ n w (by omega) (by omega) (by omega) (by omega) (by omega)).mono ?_;rintro u w7 ⟨rfl,h6,y⟩;rw[show Int.toNat 7=7 from rfl,bN]at *
          replace g:=(g.kept k (by simp[Value.ownBlock];omega)).kept y (by simp[Value.ownBlock];omega)
          replace t:=(t.trans k).trans y
          replace p:=h6;rw[show d - c=(d - (c+1))+1 by omega]at g;obtain⟨⟨U,V,W⟩,X,Y,Z⟩:=sY g x.J;have N:=RP x.J ⟨(rdStr a (i+4) 7 z).toArray⟩ g;clear n k h6 y ap an;go_wp2_with fail)
       | (refine(oh m a i _ _ p w (by omega) (by rw[bN];omega)).mono ?_
          rintro u w6 ⟨rfl,n,k⟩;rw[bN]at *
          replace o:=ak (o.J.trans (aE qW.J));have ar:=N4 a i e;have ad:=ak (aat f (rd a i e));generalize rd a i e=z at *
          replace g:=g.kept k (by simp[Value.ownBlock];omega)
          replace t:=t.trans k
          replace p:=n;rw[show d - c=(d - (c+1))+1 by omega]at g;obtain⟨⟨U,V,W⟩,X,Y,Z⟩:=sY g x.J;have N:=RO x.J (Oj f z) g;clear n k;go_wp2_with fail))
     go_roundw;(case rel=>(try rw[ad.J]);refine⟨c+1,by omega,by go_num,?_,?_,?_⟩;{rw[R.J,o.J];exact N};{rw[R.J,o.J];exact p.jM (ay _ _ _ _ (by show m≠C.heap.size;omega))};exact eD t (by show s.heap.size<=C.heap.size;omega) _);case measure=>simp[intOf];omega
   obtain rfl:c=d:=(by omega);rw[da,dP,bQ]at g;go_wp2;go_ret;exact⟨_,rfl,by rw[Q.J];exact g,t⟩
end S
namespace S
def vj(p k:Int)(cs:List Cl):Bool:=decide (0<=p/\p<=3)&&(decide (0<=k/\k<=2)&&cs.all (okB k))
theorem Wy(g f:Int)(a:Nat)(c:Option Addr)(d:Nat)(b:ω)(k:64<a)(l:a<=140737488355328) :
 Calls prog 184 #[ι κ g,ι κ f,ψ c a d] b λe i=>e=τ (.tuple #[θ ByteArray.empty,ι κ 8])/\b=i:=by
 have j:(64:Int)<(a:Int):=by omega
 go_in;go_wp2;go_ret2;exact⟨rfl,rfl⟩
theorem Wz(d b:Int)(a:List Cl)(f:Option Addr)(g i k:Nat)(c:ω)(l:0<a.length->f=σ ⟨g,i,ν⟩)(m:mT c g i a)(B:a.length<=64)
 (n:∀x∈a,x.s.size<=140737488351232) (j:vj d b a=false) :
 Calls prog 184 #[ι κ d,ι κ b,ψ f a.length k] c λe z=>e=τ (.tuple #[θ ByteArray.empty,ι κ 7])/\δ c.heap.size c z:=by
 have A:(a.length:Int)<=64:=by omega
 have r:=A2 b a f g i k c l m (by omega) n;have u:=vh d c;have w:=Hj b c;have s:=ak j;clear l m n j;go_in;go_wp2_with fail;refine u.mono ?_;rintro e p ⟨rfl,rfl⟩;cases hp:decide (0<=d/\d<=3);{clear hp;go_wp2;go_ret2;exact⟨rfl,ah _ _⟩};have v:=ak hp;clear hp;go_wp2_with fail;refine w.mono ?_;rintro e p ⟨rfl,rfl⟩;cases hk:decide (0<=b/\b<=2);{clear hk;go_wp2;go_ret2;exact⟨rfl,ah _ _⟩};have t:=ak hk;clear hk;go_wp2_with fail;refine r.mono ?_;rintro e p ⟨rfl,y⟩;have o:a.all (okB b)=false:=(by have:=s.J;unfold vj at this;rw[v.J,t.J]at this;simpa using this);rw[o];clear o;go_wp2;go_ret2;exact⟨rfl,y⟩
def jG(s:ByteArray)(p k:Int)(u n:Nat):List Cl:=if p=1 then Ge s k u n else if p=2 then zS s k u n else if p=3 then xg s k u n else(ly s k u n).1
def Made(c:Cl):Prop:=cK c.n/\c.s.size<=1000
theorem Om:Made mE:=⟨by simp[mE,cK],by show(0:Nat)<=1000;omega⟩
theorem CH(a:ByteArray)(c:Int)(b:Nat):Made (ec a c b).1:=by
 have d:=kU a b 8;have e:(2:Nat) ^ 8=256:=by decide
 unfold ec;split;{exact⟨by simp[cK],by show(0:Nat)<=1000;omega⟩};split;{refine⟨by simp[cK],?_⟩;show(rdStr a (b+8) 8 (rd a b 8 - 1)).toArray.size<=1000;rw[iY,lK];omega};exact⟨N6 (by have:=N4 a (b+8) (rd a b 8 - 1);simpa using this),by show(0:Nat)<=1000;omega⟩
theorem KI(f:ByteArray)(e:Int)(g c:Nat):∀b∈(ly f e g c).1,Made b:=by
 induction c with
 |zero=>intro b a;simp[ly]at a
 |succ c d=>
   intro b a;simp only[ly,List.mem_append,List.mem_cons,List.not_mem_nil,or_false]at a;rcases a with a|a
   . exact d b a
   . rw[a];exact CH _ _ _
theorem JO(k:ByteArray)(i:Int)(j:Nat):∀(c:Nat) (e:List Cl) (f:Nat),(∀a∈e,Made a)->∀a∈kX k i j c e f,Made a:=by
 intro c
 induction c with
 |zero=>intro e f d;exact d
 |succ c g=>
   intro e f d;rw[kX];split
   . apply g
     intro a b;rcases bP.1 b with b|b
     . exact d a b
     . rw[List.eq_of_mem_replicate b];exact CH _ _ _
   . exact d
theorem Hl(f:ByteArray)(d:List Cl)(e g c:Nat)(j:∀b∈d,Made b):∀b∈jy f d e g c,Made b:=by
 induction c with
 |zero=>intro b a;simp[jy]at a
 |succ c k=>
   intro b a;simp only[jy,List.mem_append,List.mem_cons,List.not_mem_nil,or_false]at a;rcases a with a|a
   . exact k b a
   . rw[a]
     unfold uD;rw[List.getD]
     cases hq:d[rd f (g+c*e) e]? with
     |none=>exact Om
     |some i=>exact j i (aA hq)
theorem xS(b:ByteArray)(c d:Int)(e a:Nat):Made (me b c d e a).1:=by
 have f:=kU b a 4;have g:(2:Nat) ^ 4=16:=by decide
 unfold me;split;{refine⟨by simp[cK],?_⟩;show(rdStr b (a+4) 7 (rd b a 4)).toArray.size<=1000;rw[iY,lK];omega};exact⟨aeY _ _,by show(0:Nat)<=1000;omega⟩
theorem FI(e:ByteArray)(a:Bool)(b c:Int)(f d:Nat):Made (j8 e a b c f d).1:=by unfold j8;split;{split;{exact⟨by simp[cK],by show(0:Nat)<=1000;omega⟩};exact xS _ _ _ _ _};exact xS _ _ _ _ _
theorem Mf(j:ByteArray)(d:Bool)(f g:Int)(k i c:Nat):∀b∈(fT j d f g k i c).1,Made b:=by
 induction c with
 |zero=>intro b a;simp[fT]at a
 |succ c e=>
   intro b a;simp only[fT,List.mem_append,List.mem_cons,List.not_mem_nil,or_false]at a;rcases a with a|a
   . exact e b a
   . rw[a];exact FI _ _ _ _ _ _
theorem Mg(c:ByteArray)(f b:Int)(d a:Nat):∀e∈jG c f b d a,Made e:=by unfold jG;split;{exact JO c b a a [] d (by simp)};split;{exact Hl _ _ _ _ _ (KI _ _ _ _)};split;{exact Mf _ _ _ _ _ _ _};exact KI _ _ _ _
theorem Hm(c:ByteArray)(e b:Int)(d a:Nat):(jG c e b d a).length=a:=by unfold jG;split;{exact FH c b a a [] d (by simp) (by simp)};split;{exact vM _ _ _ _ _};split;{exact yS _ _ _ _ _ _ _};exact uC _ _ _ _
theorem Tryz.ai9(a:ω):(method 566 368 (χ #[]) (jx prog 336 0)).run prog a=.ok (326,χ #[]) a:=by kernel_rfl
theorem Tryz.aja(a:ω):(method 566 369 (χ #[]) (jx prog 336 0)).run prog a=.ok (336,χ #[]) a:=by kernel_rfl
theorem Tryz.ajb(a:ω):(method 566 370 (χ #[]) (jx prog 336 0)).run prog a=.ok (339,χ #[]) a:=by kernel_rfl
theorem Tryz.ajc(a:ω):(method 566 371 (χ #[]) (jx prog 336 0)).run prog a=.ok (344,χ #[]) a:=by kernel_rfl
def Good(s:ByteArray):Prop:=
 rd s 16 8<=64/\vj (rd s 0 8:Int) (rd s 8 8:Int) (jG s (rd s 0 8:Int) (rd s 8 8:Int) 24 (rd s 16 8))=true/\∃bs,Lays bs (ph (rd s 0 8:Int) (rd s 8 8:Int) (jG s (rd s 0 8:Int) (rd s 8 8:Int) 24 (rd s 16 8)))/\strOf bs=s
end S
namespace S
theorem RS{bs:List Nat}(d:∀c∈bs,c<256)(b:Nat):Cw (strOf bs) b=bs.getD b 0:=by unfold Cw strOf;by_cases a:b<bs.length;{simp only[List.getD,List.getElem?_map,List.getElem?_eq_getElem a,Option.map_some,Option.getD_some];exact UInt8.toNat_ofNat_of_lt' (d _ (cF a))};simp[List.getD,List.getElem?_eq_none (Nat.le_of_not_lt a)]
theorem RT(bs:List Nat):(strOf bs).size=bs.length:=by show((bs.map UInt8.ofNat).toArray).size=_;simp
theorem plain_round{s:ByteArray}{k:Int}{u:Nat}{cs:List Cl}(g:∀d∈cs,xR k d) :
 ∀a,a<=cs.length->At s u (gZ k (cs.take a))->ly s k u a=(cs.take a,u+(gZ k (cs.take a)).length):=by
 intro a
 induction a with
 |zero=>intro _ _;simp[ly,gZ]
 |succ a i=>
   intro j b;have c:cs[a]?=σ cs[a]:=af (by omega);rw[gj c,rz,At.append]at b;have e:=i (by omega) b.1;have f:=LS (g _ (cF (show a<cs.length by omega))) b.2;rw[ly,e,gj c,rz];simp only[f,List.length_append];rw[iH]
theorem ae1(a:Cl)(d:List Cl):(a::d).take (fr (a::d))=List.replicate (fr (a::d)) a:=by
 have f:∀c:List Cl,c.take (c.takeWhile λb=>b.beq a).length=List.replicate (c.takeWhile λb=>b.beq a).length a:=by
  intro c
  induction c with
  |nil=>simp
  |cons b c g=>
    rw[fF]
    cases hb:b.beq a
    . simp
    . have e:=(Cl.beq_iff b a).1 hb
      subst e;simp only[if_true,List.length_cons,List.take_succ_cons,List.replicate_succ,g]
 exact f (a::d)
theorem RU{s:ByteArray}{k:Int}{n:Nat}:∀(c:Nat) (d a:List Cl) (e:Nat),(∀b∈a,xR k b)->d.length+a.length=n->a.length<=c->n<=255->At s e (oi k a)->kX s k n c d e=d++a:=by
 intro c
 induction c with
 |zero=>
   intro d a e _ _ v _ _;have:a=[]:=gP (by omega);subst this;simp[kX]
 |succ c w=>
   intro d a e g u v j i
   cases a with
   |nil=>rw[A5 _ _ _ _ _ _ (by simp at u;omega)];simp
   |cons b a=>
     have z:=G5 (cs:=b::a) (by simp);have x:=UD (b::a);have y:(b::a).length=a.length+1:=by simp
     rw[xb,At.append,At.append,bM]at i;obtain⟨⟨p,r⟩,f⟩:=i;have m:=lJ p (by omega) (by omega);have o:=LS (g b (by simp)) r;rw[az,bM,<- iH]at f;rw[kX,aF (by omega),m,o];simp only;rw[show fr (b::a) - 1+1=fr (b::a)by omega,fA (by omega),<- ae1];rw[w _ ((b::a).drop (fr (b::a))) _ (λl t=>g l (iy t)) ?_ ?_ j f]
     . rw[cj,gV]
     . rw[az,bV,bW];omega
     . rw[bW];omega
theorem Mh{s:ByteArray}{es cs:List Cl}{u:Nat}(f:∀e∈cs,known es e=true)(g:pw es.length<=64) :
 ∀a,a<=cs.length->At s u (kV es (cs.take a))->jy s es (pw es.length) u a=cs.take a:=by
 intro a
 induction a with
 |zero=>intro _ _;simp[jy]
 |succ a i=>
   intro j b;have d:cs[a]?=σ cs[a]:=af (by omega);rw[gj d,yO,At.append,vf,bV,fA (by omega)]at b;have c:=f _ (cF (show a<cs.length by omega));rw[jy,i (by omega) b.1,gj d,lJ b.2 g (amR (CB c)),uD,List.getD,Wh c];rfl
theorem RV{a:List Cl}(l:∀b∈a,xR x b)(p:a.length<=64)(d:At m w (xc x a)):zS m x w a.length=a:=by have o:=CA a;unfold xc at d;rw[At.append,At.append,bM,az,bM]at d;obtain⟨⟨i,j⟩,k⟩:=d;have g:=lJ i (by omega) (by omega);have e:=plain_round (s:=m) (k:=x) (u:=w+8) (cs:=oM a) (λb c=>l b (Hc c)) (oM a).length (ae _) (by rw[aI (ae _)];exact j);rw[aI (ae _)]at e;unfold zS;rw[g,e];have n:=UG (oM a).length (by omega);have f:=Mh (s:=m) (es:=oM a) (cs:=a) (u:=w+8+(gZ x (oM a)).length) (λb c=>Hd c) (by omega) a.length (ae _) (by rw[aI (ae _),iH];exact k);rw[aI (ae _)]at f;exact f
theorem A7{s:ByteArray}{p:Nat}{a:Cl}(b:xR x a)(f:a.null=false)(o:w<=64)(n:r<=a.n)(e:(a.n - r).toNat<2 ^ w)
 (d:At s p (if x=1 then bitsOf a.s.size 4++jr 7 a.s.data.toList else bitsOf (a.n - r).toNat w)) :
 me s x r w p=(a,p+(if x=1 then bitsOf a.s.size 4++jr 7 a.s.data.toList else bitsOf (a.n - r).toNat w).length):=by
 obtain⟨t,b⟩:=b;rw[aE (by rw[f];simp)]at b;unfold me;by_cases c:x=1
 .rw[aF c]at d ⊢;rw[aF c];rw[aE (by omega),aF c]at b;rw[At.append,bM]at d;have m:=lJ d.1 (by omega) (by have:=b.2.1;omega);rw[m];have g:=ET (s:=s) (u:=p+4) (wd:=7) a.s.data.toList (by omega) (λl e=>by have:=(b.2.2 l e).2.1;omega) a.s.size (by rw[iq];omega)
   (by rw[aI (by rw[iq];omega)];exact d.2)
  rw[aI (by rw[iq];omega)]at g;rw[g];simp only[List.length_append,bM,lE,iq];refine zI (Cl.ext' f.symm b.1.symm rfl) (by show p+4+a.s.size*7=_;omega)
 rw[aE c]at d ⊢;rw[aE c];rw[lJ d o e,aeZ t n,bM];have k:a.s=ByteArray.empty:=(by by_cases j:x=0;{rw[aF j]at b;exact b};rw[aE j,aE c]at b;by_cases i:x=2;{rw[aF i]at b;exact b.1};rw[aE i]at b;exact b.elim);exact zI (Cl.ext' f.symm rfl k.symm) rfl
theorem JQ{b:Cl}(g:xR x b)(l:u=false->b.null=false)(k:w<=64)(d:b.null=false->r<=b.n/\(b.n - r).toNat<2 ^ w)
 (c:At m v (mb u x r w b)):j8 m u x r w v=(b,v+(mb u x r w b).length):=by unfold mb at c ⊢;unfold j8;cases u;{have a:=l rfl;have f:¬b.null=true:=(by rw[a];simp);simp only[Bool.false_eq_true,if_false,List.nil_append]at c ⊢;rw[aE f]at c ⊢;exact A7 g a k (d a).1 (d a).2 c};simp only[if_true]at c ⊢;rw[At.append]at c;have i:rL m v=b.null:=(by have:=c.1 0 (by simp);simpa using this);cases a:b.null;{have f:¬b.null=true:=(by rw[a];simp);have j:=c.2;rw[aE f]at j;rw[i,a];simp only[Bool.false_eq_true,if_false];have:=A7 (s:=m) (p:=v+1) g a k (d a).1 (d a).2 (by simpa using j);rw[this,az];simp only[List.length_cons,List.length_nil];rw[iH]};rw[i,a];have e:=g.2;rw[aF a]at e;simp only[if_true,List.append_nil,List.length_cons,List.length_nil];exact zI (Cl.ext' a.symm e.1.symm e.2.symm) rfl
theorem Hn{s:ByteArray}{p:Nat}{b:List Cl}(k:∀c∈b,xR x c)(m:u=false->∀c∈b,c.null=false)(n:w<=64)
 (l:∀c∈b,c.null=false->r<=c.n/\(c.n - r).toNat<2 ^ w) :
 ∀a,a<=b.length->At s p (eK u x r w (b.take a))->fT s u x r w p a=(b.take a,p+(eK u x r w (b.take a)).length):=by
 intro a
 induction a with
 |zero=>intro _ _;simp[fT,eK]
 |succ a o=>
   intro t e;have f:b[a]?=σ b[a]:=af (by omega);have d:=cF (show a<b.length by omega);rw[gj f,qZ,At.append]at e;have i:=o (by omega) e.1;have j:=JQ (k _ d) (λg=>m g _ d) n (l _ d) e.2;rw[fT,i,gj f,qZ];simp only[j,List.length_append];rw[iH]
theorem RW{b:List Cl}(g:∀a∈b,xR x a)(k:At m w (xd x b)):xg m x w b.length=b:=by
 have s:=zQ (λa i=>(g a i).1);have E:=tI s;have G:=Gc s;have F:=mS G;unfold xd at k;rw[At.append,At.append]at k;obtain⟨⟨B,e⟩,d⟩:=k;have A:rL m w=b.any λa=>a.null:=(by have:=B 0 (by simp);simpa using this);have C:rC m x (w+1)=if x=1 then(0,0,w+1)else(leastOf (dE b),bitLen (nE (dE b)),w+1+(pA (leastOf (dE b))++bitsOf (bitLen (nE (dE b))) 7).length):=by
  unfold rC;by_cases c:x=1;{rw[aF c,aF c]};rw[aE c,aE c];rw[aE c]at e;simp only[List.length_cons,List.length_nil,Nat.zero_add]at e;rw[At.append]at e;have v:xR 0 ⟨false,leastOf (dE b),ByteArray.empty⟩:=⟨E,by simp⟩;have l:kN 0 ⟨false,leastOf (dE b),ByteArray.empty⟩=pA (leastOf (dE b)):=(by simp[kN]);have n:=LS (s:=m) (u:=w+1) v (by rw[l];exact e.1);rw[l]at n;rw[n];simp only;rw[lJ e.2 (by omega) (by have:(2:Nat) ^ 7=128:=(by decide);omega),az,bM,iH (w+1)]
 have p:(b.any λa=>a.null)=false->∀a∈b,a.null=false:=(by intro i a f;have:=lP.1 i a f;simpa using this);have D:∀a∈b,a.null=false->leastOf (dE b)<=a.n/\(a.n - leastOf (dE b)).toNat<2 ^ bitLen (nE (dE b)):=(by intro a f j;have o:=Oh f j;have z:=G8 o;have H:=Rz o;refine⟨z,du ?_ (DV _)⟩;unfold nE;omega);unfold xg;rw[A,C];by_cases c:x=1;{rw[aF c];rw[aF c]at d;simp only[List.append_nil,List.length_cons,List.length_nil,Nat.zero_add]at d;have y:∀r t,eK (b.any λa=>a.null) x r t b=eK (b.any λa=>a.null) x 0 0 b:=(by intro r t;unfold eK;congr 1;funext a;unfold mb;simp only[if_pos c]);rw[y]at d;have u:∀a∈b,a.null=false->(0:Int)<=a.n/\(a.n - 0).toNat<2 ^ 0:=(by intro a f j;have:=(g a f).2;rw[aE (by rw[j];simp),aE (by omega),aF c]at this;rw[this.1];simp);have:=Hn (s:=m) (p:=w+1) g p (by omega) u b.length (ae _) (by rw[aI (ae _)];exact d);rw[aI (ae _)]at this;simp only[this]};rw[aE c];rw[aE c]at d;rw[az,a7,dD,fK,<- iH]at d;have:=Hn (s:=m) (p:=w+1+(pA (leastOf (dE b))++bitsOf (bitLen (nE (dE b))) 7).length) g p F D b.length (ae _) (by rw[aI (ae _)];exact d);rw[aI (ae _)]at this;simp only[this]
theorem RX{bs:List Nat}{a:List Cl}(f:Lays bs (ph x r a))(A:0<=x)(B:x<=3)(D:0<=r)(C:r<=2)(m:a.length<=64)(z:∀c∈a,cK c.n)(n:a.all (okB r)=true) :
 ((rd (strOf bs) 0 8:Nat):Int)=x/\((rd (strOf bs) 8 8:Nat):Int)=r/\rd (strOf bs) 16 8=a.length/\jG (strOf bs) x r 24 a.length=a/\Good (strOf bs):=by
 have d:∀c∈a,xR r c:=λc l=>yN (z c l) (ez.1 n c l);have e:=f.at (strOf bs) (RS f.small);unfold ph at e;rw[At.append,At.append,At.append]at e;simp only[List.length_append,bM,Nat.zero_add]at e;obtain⟨⟨⟨v,w⟩,y⟩,b⟩:=e;have t:=lJ v (by omega) (by omega);have u:=lJ w (by omega) (by omega);have j:=lJ y (by omega) (by omega);have g:((rd (strOf bs) 0 8:Nat):Int)=x:=by rw[t];omega
 have i:((rd (strOf bs) 8 8:Nat):Int)=r:=by rw[u];omega
 have k:jG (strOf bs) x r 24 a.length=a:=(by unfold jG;unfold body at b;by_cases o:x=1;{rw[aF o]at b ⊢;have:=RU (s:=strOf bs) (k:=r) (n:=a.length) a.length [] a 24 d (by simp) (ae _) (by omega) b;exact this};rw[aE o]at b ⊢;by_cases p:x=2;{rw[aF p]at b ⊢;exact RV d m b};rw[aE p]at b ⊢;by_cases s:x=3;{rw[aF s]at b ⊢;exact RW d b};rw[aE s]at b ⊢;have:=plain_round (s:=strOf bs) (k:=r) (u:=24) d a.length (ae _) (by rw[aI (ae _)];exact b);rw[aI (ae _)]at this;rw[this]);refine⟨g,i,j,k,?_⟩;unfold Good;rw[g,i,j,k];refine⟨m,?_,bs,f,rfl⟩;unfold vj;rw[n];simp;omega
end S
namespace S
theorem WA{d:Option Addr}{a:List Cl}(c:p.ownsRow w 229 3 (ψ d v n) v (bI a)):∃b,(0<a.length->d=σ ⟨b,0,ν⟩)/\mT p b 0 a:=by
 have m:a.length=v:=by have:=c.1;rw[tJ]at this;omega
 by_cases i:0<v;{obtain⟨k,j,e,g,_⟩:=rA c;obtain⟨b,rfl⟩:=g i;simp only[Value.slice.injEq]at e;obtain⟨rfl,-,rfl⟩:=e;exact⟨b,λ_=>rfl,zR c⟩};refine⟨0,λc=>by omega,λo l f=>?_⟩;have:=(aj.1 f).1;omega
theorem RY(a:ByteArray)(c:ω)(p:a.size<=140737488351232) :
 Calls prog 154 #[θ a] c λe w'=>((Good a/\∃x,e=τ (.tuple #[ι κ (rd a 8 8:Int),x,ι κ 0])/\w'.ownsRow c.heap.size 229 3 x (rd a 16 8) (bI (jG a (rd a 0 8:Int) (rd a 8 8:Int) 24 (rd a 16 8))))\/
  (¬Good a/\e=τ (.tuple #[ι κ 0,ψ ν 0 0,ι κ 2])))/\δ c.heap.size c w':=by
 have K:=ak (show Good a↔(rd a 16 8<=64/\vj (rd a 0 8:Int) (rd a 8 8:Int) (jG a (rd a 0 8:Int) (rd a 8 8:Int) 24 (rd a 16 8))=true/\∃bs,Lays bs (ph (rd a 0 8:Int) (rd a 8 8:Int) (jG a (rd a 0 8:Int) (rd a 8 8:Int) 24 (rd a 16 8)))/\strOf bs=a)from Iff.rfl);have aC:=kU a 0 8;have av:=kU a 8 8;have ax:=kU a 16 8;have ar:(2:Nat) ^ 8=256:=by decide
 have a0:wZ (c.alloc (ξ #[θ a,ι κ 0] 332)) c.heap.size a 0:=
  ⟨by rw[cI _ _ _ _ rfl];rfl,by rw[cI _ _ _ _ rfl];rfl,iX _ _ _ _ rfl⟩
 go_in;go_wp2_with fail;refine(oh c.heap.size a 0 _ _ a0 p (by omega) (by rw[show Int.toNat 8=8 from rfl];omega)).mono ?_;rintro e w2 ⟨rfl,g,k⟩;rw[show Int.toNat 8=8 from rfl]at *;have JB:=g;have ab:=(cR c (ξ #[θ a,ι κ 0] 332) (σ c.heap.size)).trans k;clear g k;generalize hPN:rd a 0 8=d at *;have an:=ak hPN;clear hPN;have a4:d<256:=by omega
 go_wp2_with fail;refine(oh c.heap.size a (0+8) _ _ JB p (by omega) (by rw[show Int.toNat 8=8 from rfl];omega)).mono ?_;rintro e w3 ⟨rfl,g,k⟩;rw[show Int.toNat 8=8 from rfl,show 0+8=8 from rfl]at *;have ao:=g;have ac:=ab.trans k;clear g k;generalize hKN:rd a 8 8=b at *;have X:=ak hKN;clear hKN;have B5:b<256:=by omega
 go_wp2_with fail;refine(oh c.heap.size a (8+8) _ _ ao p (by omega) (by rw[show Int.toNat 8=8 from rfl];omega)).mono ?_;rintro e y ⟨rfl,g,k⟩;rw[show Int.toNat 8=8 from rfl,show 8+8=16 from rfl,show 16+8=24 from rfl]at *;have W:=ac.trans k;clear k;generalize hNN:rd a 16 8=n at *;have ad:=ak hNN;clear hNN;have O:n<=255:=by omega
 clear aC av ax ar;go_wp2_with fail;refine(CG _ y).mono ?_;rintro e i ⟨rfl,rfl⟩;by_cases u:(d:Int)=1;(case' pos=>rw[aF u];have C:=ak u;clear u;have l:=Tryz.ai9;simp[jx,underlying336]at l;go_wp2_with fail;refine(L9 c.heap.size a 24 (b:Int) n y g p O (by omega)).mono ?_;rintro e i ⟨x,rfl,r,D⟩;have E:Ge a (b:Int) 24 n=jG a (d:Int) (b:Int) 24 n:=by unfold jG;rw[aF C.J]);(case' neg=>rw[aE u];have C:=ak u;clear u;by_cases v:(d:Int)=2;(case' pos=>rw[aF v];have L:=ak v;clear v;have l:=Tryz.aja;simp[jx,underlying336]at l;go_wp2_with fail;refine(Mc c.heap.size a 24 (b:Int) n y g p O (by omega)).mono ?_;rintro e i ⟨x,rfl,r,D⟩;have E:zS a (b:Int) 24 n=jG a (d:Int) (b:Int) 24 n:=by unfold jG;rw[aE C.J,aF L.J]);case' neg=>rw[aE v];have L:=ak v;clear v;by_cases w:(d:Int)=3;(case' pos=>rw[aF w];have T:=ak w;clear w;have l:=Tryz.ajb;simp[jx,underlying336]at l;go_wp2_with fail;refine(Me c.heap.size a 24 (b:Int) n y g p O (by omega)).mono ?_;rintro e i ⟨x,rfl,r,D⟩;have E:xg a (b:Int) 24 n=jG a (d:Int) (b:Int) 24 n:=by unfold jG;rw[aE C.J,aE L.J,aF T.J]);case' neg=>rw[aE w];have T:=ak w;clear w;have l:=Tryz.ajc;simp[jx,underlying336]at l;go_wp2_with fail;refine(JM c.heap.size a 24 (b:Int) n y g p O (by omega)).mono ?_;rintro e i ⟨x,rfl,r,D⟩;have E:(ly a (b:Int) 24 n).1=jG a (d:Int) (b:Int) 24 n:=by unfold jG;rw[aE C.J,aE L.J,aE T.J]);all_goals
  rw[E]at r;clear l E;have o:=W.trans D;have B:=Mg a (d:Int) (b:Int) 24 n;have Gb:=Hm a (d:Int) (b:Int) 24 n;generalize hCS:jG a (d:Int) (b:Int) 24 n=cs at *;have aa:=ak hCS;clear hCS;have Z:c.heap.size<=i.heap.size:=o.size;have U:δ c.heap.size c i:=⟨o.os,o.tape,o.output,o.size,λa2 hj=>o.block a2 hj (by simp;omega)⟩;have Q:=eB r (show c.heap.size<=y.heap.size from W.size);obtain⟨R,M,rfl,Rr,a1⟩:=rA Q;obtain⟨Y,F,H⟩:=WA Q;subst Gb;have Bw:=Q;clear r Q o D Rr;have P:∀m∈cs,cK m.n:=λm f=>(B m f).1;have G:∀m∈cs,m.s.size<=140737488351232:=λm f=>by have:=(B m f).2;omega
  by_cases N:cs.length<=64
  .cases mQ:vj (d:Int) (b:Int) cs;{have z:Hid (¬Good a):=ak (λf=>by have:=(K.J.1 f).2.1;rw[mQ]at this;cases this);have A:=Wz (d:Int) (b:Int) cs R Y 0 M i F H N G mQ;clear mQ H F B P G;go_wp2_with fail;refine A.mono ?_;rintro e w6 ⟨rfl,s⟩;have I:=U.trans (s.mono Z);clear s;go_wp2;go_ret3;exact⟨.inr ⟨z.J,rfl⟩,I⟩}
   have j:=mQ;unfold vj at j;simp only[Bool.and_eq_true,decide_eq_true_eq]at j;have A:=KG (d:Int) (b:Int) cs R Y 0 M i F H a1 N P G j.1.1 j.1.2 j.2.1.1 j.2.1.2 j.2.2;have am:=ak mQ;clear mQ j H F B P G;go_wp2_with fail;refine A.mono ?_;rintro e w6 ⟨⟨bs,V,rfl⟩,s⟩;have I:=U.trans (s.mono Z);have al:=Bw.kept (mD s) (by cases(Value.slice R cs.length M).ownBlock<;>simp);clear s;by_cases t:strOf bs=a;{have ap:Hid (Good a):=ak (K.J.2 ⟨N,am.J,bs,V,t⟩);have aq:((strOf bs).toList==a.toList)=true:=(by rw[t];simp);clear t;go_wp2;go_ret3;refine⟨.inl ⟨ap.J,_,by rw[X.J];rfl,?_⟩,I⟩;rw[an.J,X.J,ad.J,aa.J];exact al}
   have z:Hid (¬Good a):=ak (λf=>by
    obtain⟨a3,Jf,Gu⟩:=(K.J.1 f).2.2;exact t (by rw[V.unique Jf];exact Gu))
   have aq:((strOf bs).toList==a.toList)=false:=(by rw[aL];intro f;rw[gL,gL]at f;exact t (by cases hx:strOf bs;cases hy:a;rw[hx,hy]at f;congr 1;exact oz.1 f));clear t;go_wp2;go_ret3;exact⟨.inr ⟨z.J,rfl⟩,I⟩
  have z:Hid (¬Good a):=ak (λf=>N (K.J.1 f).1);have A:=Wy (d:Int) (b:Int) cs.length R M i (by omega) (by omega);clear H F B P G;go_wp2_with fail;refine A.mono ?_;rintro e w6 ⟨rfl,rfl⟩;go_wp2;go_ret3;exact⟨.inr ⟨z.J,rfl⟩,U⟩
end S
