import Derived.Test.YtcoaphfimellcaaGreatDoorQBI
import Derived.Lib.ItoaLen
import Derived.Lib.AppendIntMem
set_option maxHeartbeats 0
set_option maxRecDepth 100000
namespace Go.Proofs.YtcoaphfimellcaaGreatDoor
open Go.RowKit
open _root_.Go.Proofs.Tryz
open Option renaming some→σ,none→ν
open Go.IntKind renaming i64→κ
open Go.Ending renaming returned→τ
open Go.Obj renaming cells→ξ
open Go renaming World→ω,Value→υ
open Go.RowKit renaming Below→δ
open Go.Value renaming int→ι,string→θ,slice→ψ,pointer→π,agg→χ
variable{p i:Nat}{m:Array υ}{x:ω}{v n:υ}
def uL(w:ω):Prop:=Lib.TabIs prog w "internal/strconv.uint64pow10" .u64 Lib.pow10Tab
theorem uL.below{w:ω}(a:uL w)(c:δ p w x)(b:w.heap.size<=p):uL x:=Lib.tabBelow_of_tabIs a x (c.mono b)
def wrL(c:aD)(k:Nat):List UInt8:=if c.null then[110,117,108,108]else if k=1 then[39]++c.s.data.toList++[39]else if k=2 then Lib.formatBool (decide (c.n=1))else Lib.itoa c.n
theorem U7{b:aD}(a:Mi p b):(wrL b p).length<=21:=by unfold wrL;split;{decide};split;{have c:=Ho a;simp;omega};split;{unfold Lib.formatBool;split<;>decide};exact Lib.itoa_length_le _ a.1.1 a.1.2
theorem Pk{c:aD}{k:Nat}(x:k<=2)(e:S.cK c.n){w:ω}(i:uL w)(j:c.s.size<=12) :
 Calls prog 98 #[χ #[.bool c.null,ι κ c.n,θ c.s],ι κ k] w λd y=>d=τ (θ ⟨(wrL c k).toArray⟩)/\δ w.heap.size w y:=by
 obtain⟨g,n,o⟩:=c;have m:δ w.heap.size w (w.alloc (ξ #[.bool g,ι κ n,θ o] 229)):=(ah _ _).alloc (ae _) _;have s:=ak (λ(w1:ω) (b:δ w.heap.size w w1)=>Tryz.strconv_Itoa n e.1 e.2 w1 (i.below b (ae _)));have r:=ak (λ(u:Bool) (w1:ω)=>Tryz.strconv_FormatBool u w1);have a:=m;have p:=ak (λ(w1:ω) (b:δ w.heap.size w w1) k f=>b.trans (Lib.below_grow w.heap.size w1 b.size k f));have A:o.size+2<=1000:=by simp at j;omega
 clear i m e j;go_in;cases g;(case true=>go_wp2_with fail;go_ret;exact⟨rfl,a⟩);case false=>
  have t:k=0\/k=1\/k=2:=by omega
  clear x;rcases t with rfl|rfl|rfl
  {go_wp2_with fail;refine(s.J _ a).mono ?_;rintro d w1 ⟨rfl,k,f,rfl⟩;have v:=p.J _ a k f;go_wp2_with fail;go_ret;exact⟨rfl,v⟩};{go_wp2_with fail;go_ret;exact⟨bn (λz=>Ending.returned (Value.string z)) (vx (Array.ext' (by simp[wrL]))),a⟩};go_wp2_with fail;refine(r.J _ _).mono ?_;rintro d w1 ⟨rfl,rfl⟩;go_wp2_with fail;go_ret;exact⟨rfl,a⟩
def J6(i:Nat):List UInt8:=if i=0 then[]else[44]
theorem Iu{l:List UInt8}{w:ω}(a:Nat)(b:Nq p i l w)(r:l.length<=1000000)(o:p<=w.heap.size) :
 Calls prog 95 #[π (σ ⟨i,0,ν⟩),ι κ a] w λd g=>d=τ (.tuple #[])/\Nq p i (l++J6 a) g/\rR p i w g:=by have m:=b;have k:=Dc 44 b r o;clear b;go_in;by_cases f:a=0;{subst f;go_wp2_with fail;refine bodyPost_end (sV rfl _ _ _) rfl ?_;exact⟨rfl,by simpa[J6]using m,rR.refl _ _ _⟩};have s:(0:Int)<a:=(by omega);go_wp2_with fail;refine k.mono ?_;rintro d w1 ⟨rfl,e,c⟩;have j:=e;have n:=c;clear e c;go_wp2_with fail;refine bodyPost_end (sV rfl _ _ _) rfl ?_;exact⟨rfl,by simpa[J6,f]using j,n⟩
def Dd(k:Nat):ByteArray:=if k=0 then⟨#[105,110,116]⟩else if k=1 then⟨#[115,116,114]⟩else⟨#[98,111,111,108]⟩
def qs(w:ω):Prop:=1<w.heap.size/\∀k,k<=2->w.cell? ⟨1,k,ν⟩=σ (θ (Dd k))
theorem qs.below{w:ω}(a:qs w)(b:δ i w x)(d:w.heap.size<=i):qs x:=⟨ai a.1 b.size,λc e=>(b.cell (p:=⟨1,c,ν⟩) (ai a.1 d)).trans (a.2 c e)⟩
def BQ(cols:List br)(j:Nat):List UInt8:=match cols[j]? with|some c=>J6 j++c.1.data.toList++[58]++(Dd c.2).data.toList|none=>[]
def sr(cols:List br)(i:Nat):List UInt8:=(List.range i).flatMap (BQ cols)
def fieldAt(cols:List br)(row:List aD)(j:Nat):List UInt8:=match cols[j]? with|some c=>J6 j++wrL (row.getD j fD) c.2|none=>[]
def q7(cols:List br)(row:List aD)(i:Nat):List UInt8:=(List.range i).flatMap (fieldAt cols row)
def Iv(cols:List br)(R:List (List aD))(r:Nat):List UInt8:=match R[r]? with|some row=>q7 cols row cols.length++[10]|none=>[]
def oo(cols:List br)(R:List (List aD))(i:Nat):List UInt8:=(List.range i).flatMap (Iv cols R)
def xX(cols:List br)(R:List (List aD)):List UInt8:=sr cols cols.length++[10]++oo cols R R.length
theorem xy{c:Type}(a:Nat->List c)(b:Nat):(List.range (b+1)).flatMap a=(List.range b).flatMap a++a b:=by rw[sy,eN];simp
theorem xA{e:Type}(c:Nat->List e)(d:Nat):∀a,(∀b,b<a->(c b).length<=d)->((List.range a).flatMap c).length<=a*d
 |0,_=>by simp
 |a+1,h=>by
   have:=xA c d a (λb f=>h b (by omega));have:=h a (by omega);rw[xy,az,nY];omega
def sR(cols:List br):Prop:=cols.length<=5/\∀c∈cols,c.1.size<=8/\c.2<=2
def oq(cols:List br):Prop:=cols.length<=302/\∀c∈cols,c.1.size<=8/\c.2<=2
theorem sR.few{cols:List br}(a:sR cols):oq cols:=⟨ag a.1 (by decide),a.2⟩
theorem wj(a:Nat):(J6 a).length<=1:=by unfold J6;split<;>simp
theorem Iw{cols:List br}(c:oq cols)(b:Nat):(BQ cols b).length<=20:=by unfold BQ;split;{rename_i a e;have f:=(c.2 a (aA e)).1;have g:=wj b;have d:(Dd a.2).data.toList.length<=4:=(by unfold Dd;split;decide;split<;>decide);simp only[List.length_append,List.length_cons,List.length_nil,Array.length_toList,ByteArray.size_data]at d ⊢;omega};simp
theorem E9{cols:List br}{row:List aD}(c:BD cols row)(a:Nat):(fieldAt cols row a).length<=30:=by unfold fieldAt;split;{rename_i d b;have e:a<row.length:=(by rw[c.1];exact(aj.mp b).1);have f:=U7 (c.2 a (row.getD a fD) d (by simp[List.getD,List.getElem?_eq_getElem e]) b);have g:=wj a;rw[az];omega};simp
theorem Iy{cols:List br}{a:List (List aD)}(f:cols.length<=302)(b:fB cols a)(e:Nat):(Iv cols a e).length<=10000:=by unfold Iv;split;{rename_i row c;have:=xA (fieldAt cols row) 30 cols.length (λd _=>E9 (b row (aA c)) d);unfold q7;rw[az,gX];omega};simp
theorem Pm{cols:List br}{a:br}(b:cols[p]?=σ a):sr cols (p+1)=sr cols p++J6 p++a.1.data.toList++[58]++(Dd a.2).data.toList:=by unfold sr;rw[xy];simp[BQ,b]
theorem Pn{cols:List br}{row:List aD}{a:br}(b:cols[p]?=σ a):q7 cols row (p+1)=q7 cols row p++J6 p++wrL (row.getD p fD) a.2:=by unfold q7;rw[xy];simp[fieldAt,b]
theorem De{cols:List br}{R:List (List aD)}{r:Nat}{row:List aD}(a:R[r]?=σ row):oo cols R (r+1)=oo cols R r++q7 cols row cols.length++[10]:=by unfold oo;rw[xy];simp[Iv,a]
def FU(w W0 wr:ω)(l:List UInt8):Prop:=Nq (w.heap.size+1) (w.heap.size+1) l wr/\δ (w.heap.size+1) W0 wr
section
variable {w W0 wr w1:ω} {l l1:List UInt8}
theorem FU.big(b:FU w W0 wr l):w.heap.size+1<wr.heap.size:=by rcases b.1 with⟨-,c,a,-⟩|⟨-,c,a,-⟩<;>exact aw a
theorem FU.below(a:FU w W0 wr l)(b:δ wr.heap.size wr w1):FU w W0 w1 l:=⟨a.1.below b,a.2.trans (b.mono (fL a.big))⟩
theorem FU.wrote(a:FU w W0 wr l)(b:Nq (w.heap.size+1) (w.heap.size+1) l1 w1)(c:rR (w.heap.size+1) (w.heap.size+1) wr w1):FU w W0 w1 l1:=⟨b,a.2.trans c.1⟩
end
theorem rR.keeps{B:Nat}{w:ω}{b:TypeId}{c:Nat×Nat}(d:rR B p w x)(f:w.heap[i]?=σ (ξ m b c))(e:i≠p)(g:b≠5):x.heap[i]?=σ (ξ m b c):=
 d.2 i _ f (λa=>e (bf a)) (λj fz a=>by cases a;exact g rfl)
theorem bq{w1:ω}{t:TypeId}(a:w1.heap[p]?=σ (ξ #[v,n] t (0,0))):w1.cell? ⟨p,0,ν⟩=σ v/\w1.cell? ⟨p,1,ν⟩=σ n:=by simp[World.cell?,a]
theorem abJ{cols:List br}{d:List (List aD)}{w:ω}(X:oq cols)(hR:fB cols d)(be:d.length<=64)(a4:0<cols.length)(hc:ew w v cols)(hb:eC w n (bh cols.length d))(hk:qs w)(hp:uL w) :
 Calls prog 71 #[χ #[v,n]] w λk w'=>k=τ (θ ⟨(xX cols d).toArray⟩)/\δ w.heap.size w w':=by
 obtain⟨R,ij,rfl⟩:=hc.slice;obtain⟨Q,Z,r⟩:=hb.slice;rw[bB]at r;subst r;obtain⟨W0,M⟩:=nm (w.alloc (wG R cols.length ij Q cols.length Z));have mL:=oJ M;have lC:W0.heap.size=w.heap.size+1:=by rw[M];simp
 have dT:W0.heap[w.heap.size]?=σ (wG R cols.length ij Q cols.length Z):=by rw[M];exact au w _
 have x:=ak (λwr (U:δ (w.heap.size+1) W0 wr)=>(show ew wr (ψ R cols.length ij) cols/\eC wr (ψ Q cols.length Z) (bh cols.length d)/\(wr.cell? ⟨w.heap.size,0,ν⟩=σ (ψ R cols.length ij)/\wr.cell? ⟨w.heap.size,1,ν⟩=σ (ψ Q cols.length Z))/\qs wr/\uL wr from by
  have V:δ w.heap.size w wr:=mL.trans (U.mono (by omega));exact⟨hc.below V (ae _),hb.below V (ae _),bq ((U.block _ (by omega)).trans dT),hk.below V (ae _),hp.below V (ae _)⟩))
 have a3:=ak (λwr (U:δ (w.heap.size+1) W0 wr)=>mL.trans (U.mono (bE _)));have a2:Hid (FU w W0 (W0.alloc (ξ #[π ν,ψ ν 0 0] 220)) []):=ak ⟨by
  have:=Lib.fresh_isBuilder 220 5 W0;rw[lC]at this;exact this,by rw[<- lC];exact(ah _ _).alloc (ae _) _⟩
 obtain⟨z0,z1⟩:=bq dT;have Qw:=ak M;have HF:=ak X;have HR:=ak hR;have h5:=X.1;have ab:Hid (∀a,a<=cols.length->(sr cols a).length<=6100):=ak (λa y=>ag (xA _ 20 a (λI _=>Iw X I)) (by omega));have EX:Hid (∀f,f<=d.length->(oo cols d f).length<=640000):=ak (λf hr=>ag (xA _ 10000 f (λI _=>Iy h5 hR I)) (by omega));clear hc hb hk hp mL lC dT X hR M;go_in;go_wp2_with fail;rw[<- Qw.J];go_loopw[12] (λb wr=>∃a:Nat,a<=cols.length/\b=ι κ a/\Hid (FU w W0 wr (sr cols a))) (λb _=>cols.length - (intOf b).toNat);case atStart=>exact⟨0,aK _,rfl,a2⟩
 case round=>
  obtain⟨a,y,rfl,g⟩:=hrel;by_cases G:a<cols.length;{have ju:(a:Int)<cols.length:=(by omega);obtain⟨b,o⟩:∃b,cols[a]?=σ b:=⟨_,af G⟩;obtain⟨a5,K6⟩:=HF.J.2 b (aA o);obtain⟨C,-,-,-⟩:=x.J wr g.J.2;obtain⟨cg,co,NR,r,d0,d1⟩:=ew.get C o;cases r;obtain⟨W1,s⟩:=nm (wr.alloc (YO b.1 b.2));have H:=oJ s;have K:W1.heap[wr.heap.size]?=σ (YO b.1 b.2):=(by rw[s];exact au wr _);have L:=ak K;have p:=ak (g.J.below H);have ZK:=g.J.big;have i:=ak (Iu a p.J.1 (ag (ab.J a y) (by omega)) (fL p.J.big));have O:=ak (Pm o);have B:=ab.J a y;have B6:=ak s;clear s H K C o;go_wp2_with fail;rw[<- B6.J];refine i.J.mono ?_;rintro k w1 ⟨rfl,e,c⟩;have j:=ak (p.J.wrote e c);have D:=ak (c.keeps L.J (by omega) (by decide));have am:=ak (MK b.1 e (by rw[az];have:=wj a;omega) (by omega) (fL j.J.big));obtain⟨q0,q1⟩:=bq D.J;clear e c i L p d0 d1;go_wp2_with fail;refine am.J.mono ?_;rintro k u ⟨rfl,e,c⟩;have m:=ak (j.J.wrote e c);have EV:=ak (c.keeps D.J (by omega) (by decide));have an:=ak (Dc 58 e (by simp only[List.length_append,Array.length_toList,ByteArray.size_data];have:=wj a;omega) (fL m.J.big));clear e c am D j q0 q1;go_wp2_with fail;refine an.J.mono ?_;rintro k w3 ⟨rfl,e,c⟩;have P:=ak (m.J.wrote e c);have Qy:=ak (c.keeps EV.J (by omega) (by decide));have a6:(Dd b.2).size<=4:=(by unfold Dd;split;decide;split<;>decide);have ao:=ak (MK (Dd b.2) e (by simp only[List.length_append,Array.length_toList,ByteArray.size_data,List.length_cons,List.length_nil];have:=wj a;omega) (by omega) (fL P.J.big));obtain⟨q0,q1⟩:=bq Qy.J;obtain⟨-,-,-,B5,-⟩:=x.J w3 P.J.2;have k0:=B5.2 b.2 K6;have a9:((b.2:Nat):Int)<3:=(by omega);clear e c an EV m B5 a6;go_wp2_with fail;refine ao.J.mono ?_;rintro k w4 ⟨rfl,e,c⟩;have ar:=ak (P.J.wrote e c);rw[<- O.J]at ar;clear e c ao Qy P q0 q1 k0;go_wp2_with fail;go_roundw;(case rel=>exact⟨a+1,by omega,by go_num,ar⟩);case measure=>simp[intOf];omega}
  obtain rfl:a=cols.length:=by omega
  have B:=ab.J cols.length (ae _);have i:=ak (Dc 10 g.J.1 (by omega) (fL g.J.big));clear z0 z1;go_wp2_with fail;refine i.J.mono ?_;rintro k w1 ⟨rfl,e,c⟩;have j:=ak (g.J.wrote e c);obtain⟨-,av,⟨z0,z1⟩,-,-⟩:=x.J w1 j.J.2;have N:=ak (rO av (gA (R:=d) a4));rw[aQ]at N;clear e c i g;obtain⟨A,F⟩:=nm (sr cols cols.length++[10]);have vz:A.length<=6101:=by rw[F,az];simp;omega
  have a0:Hid (xX cols d=A++oo cols d d.length):=ak (by rw[F];rfl);have UA:Hid (A=sr cols cols.length++[10]):=ak F;rw[<- F]at j;clear F B av;go_wp2_with fail;refine N.J.mono ?_;rintro k w' ⟨rfl,rfl⟩;go_wp2_with fail;go_loopw[33] (λb wr=>∃f:Nat,f<=d.length/\b=ι κ f/\Hid (FU w W0 wr (A++oo cols d f))) (λb _=>d.length - (intOf b).toNat);case atStart=>exact⟨0,aK _,rfl,by simpa[oo]using j⟩
  case round=>
   obtain⟨f,hr,rfl,E⟩:=hrel;by_cases a8:f<d.length
   .have bb:(f:Int)<d.length:=(by omega);obtain⟨row,T⟩:∃row,d[f]?=σ row:=⟨_,af a8⟩;have ac:=ak (HR.J row (aA T));have aq:=ak (De (cols:=cols) T);have N:=ak T;have EO:=EX.J f hr;obtain⟨z,Y⟩:=nm (A++oo cols d f);have bc:z.length<=647000:=(by rw[Y,az];omega);have Wn:Hid (A++oo cols d (f+1)=z++q7 cols row cols.length++[10]):=ak (by rw[aq.J,Y];simp);rw[<- Y]at E;have ap:Hid (∀a,a<=cols.length->(q7 cols row a).length<=9060):=ak (λa y=>ag (xA _ 30 a (λI _=>E9 ac.J I)) (by omega));obtain⟨-,-,⟨y0,y1⟩,-,-⟩:=x.J wr E.J.2;clear Y aq T z0 z1;go_wp2_with fail;go_loopw[39] (λb wr=>∃a:Nat,a<=cols.length/\b=ι κ a/\Hid (FU w W0 wr (z++q7 cols row a))) (λb _=>cols.length - (intOf b).toNat);(case atStart=>exact⟨0,aK _,rfl,by simpa[q7]using E⟩);case round=>
     obtain⟨a,y,rfl,g⟩:=hrel;by_cases G:a<cols.length
     .have ju:(a:Int)<cols.length:=(by omega);obtain⟨b,o⟩:∃b,cols[a]?=σ b:=⟨_,af G⟩;obtain⟨a5,K6⟩:=HF.J.2 b (aA o);obtain⟨C,-,-,-⟩:=x.J wr g.J.2;obtain⟨cg,co,NR,r,d0,d1⟩:=ew.get C o;cases r;obtain⟨W1,s⟩:=nm (wr.alloc (YO b.1 b.2));have H:=oJ s;have K:W1.heap[wr.heap.size]?=σ (YO b.1 b.2):=(by rw[s];exact au wr _);have L:=ak K;have p:=ak (g.J.below H);have ZK:=g.J.big;have B:=ap.J a y;have yo:(z++q7 cols row a).length<=657000:=(by rw[az];omega);have i:=ak (Iu a p.J.1 (by omega) (fL p.J.big));have O:=ak (Pn (row:=row) o);have aC:a<row.length:=(by rw[ac.J.1];exact G);obtain⟨t,hx⟩:∃t,row[a]?=σ t:=⟨_,af aC⟩;have ad:row.getD a fD=t:=(by simp[List.getD,hx]);rw[ad]at O;have ax:=ac.J.2 a t b hx o;have aa:=ak ax;have al:Hid ((bh cols.length d)[a]?=σ (d.map λf=>f.getD a fD)/\(d.map λf=>f.getD a fD)[f]?=σ t):=ak ⟨gA G,by rw[aV,N.J];exact bn σ ad⟩;have B6:=ak s;clear s H K C o hx ad ax aC B;go_wp2_with fail;rw[<- B6.J];refine i.J.mono ?_;rintro k w1 ⟨rfl,e,c⟩;have j:=ak (p.J.wrote e c);have D:=ak (c.keeps L.J (by omega) (by decide));have gq:=ak e;obtain⟨q0,q1⟩:=bq D.J;obtain⟨-,Zc,⟨x0,x1⟩,-,Y1⟩:=x.J w1 j.J.2;obtain⟨bg,bo,bd,bi,r,-,b0,hu⟩:=Zc.Mk al.J.1;rw[bB]at r;cases r
      obtain⟨vg,vo,dq,rfl,v0,v1,v2⟩:=mW.get hu al.J.2;rw[aQ]at b0;have RG:=ak (Pk (w:=w1.drew) (c:=t) (k:=b.2) K6 aa.J.1 (Y1.below (aH (ah _ _)) (ae _)) (Ho aa.J));clear e c i L p d0 d1 Zc Y1 hu;have tD:=ak (λ(u:ω) (W:δ w1.heap.size w1 u)=>j.J.below W);have a1:=ak (λ(u:ω) (W:δ w1.heap.size w1 u)=>MK ⟨(wrL t b.2).toArray⟩ (j.J.below W).1 (by rw[az];have:=wj a;omega) (by have:=U7 aa.J;show(wrL t b.2).toArray.size<=_;rw[iY];omega) (fL (j.J.below W).big));go_wp2_with fail;go_region_with(first
       | (go_at_call 98;refine RG.J.mono ?_;rintro k u ⟨rfl,cG⟩;have jl:=ak ((aH (ah w1.heap.size w1)).trans cG);clear cG)
       | (go_at_call 96;refine(a1.J _ jl.J).mono ?_;rintro k w3 ⟨rfl,nB,D9⟩;have m:=ak ((tD.J _ jl.J).wrote nB D9);clear nB D9))
      all_goals(rw[show z++q7 cols row a++J6 a++(ByteArray.mk (wrL t b.2).toArray).data.toList=z++q7 cols row (a+1)by rw[O.J];simp]at m;(try go_wp2_with fail);go_roundw;(case rel=>exact⟨a+1,by omega,by go_num,m⟩);case measure=>simp[intOf];omega)
     obtain rfl:a=cols.length:=by omega
     have B:=ap.J cols.length (ae _);have i:=ak (Dc 10 g.J.1 (by rw[az];omega) (fL g.J.big));clear y0 y1;go_wp2_with fail;refine i.J.mono ?_;rintro k u ⟨rfl,e,c⟩;have m:=ak (g.J.wrote e c);rw[<- Wn.J]at m;clear e c i g;go_wp2_with fail
     first
     |exact⟨⟨f+1,by omega,by go_num,m⟩,by simp[intOf];omega⟩
     | (go_roundw
        case rel=>exact⟨f+1,by omega,by go_num,m⟩
        case measure=>simp[intOf];omega)
   obtain rfl:f=d.length:=(by omega);have EO:=EX.J d.length (ae _);have i:=ak (abI E.J.1 (by rw[UA.J];exact List.append_ne_nil_of_left_ne_nil (by simp) _) (by rw[az];omega));clear z0 z1;go_wp2_with fail;refine i.J.mono ?_;rintro k u ⟨rfl,c⟩;have HE:=ak (a3.J _ (E.J.2.trans c));clear c i;go_wp2_with fail;go_ret;exact⟨by rw[a0.J];rfl,HE.J⟩
theorem rT{fn:Func}{a:Tmp}(b:fn.results=#[.cell a 76]){w:ω}(e:m.getD a undef=π (σ ⟨p,0,ν⟩))(c:w.cell? ⟨p,0,ν⟩=σ v)(d:w.cell? ⟨p,1,ν⟩=σ n):(results fn m).run prog w=.ok (χ #[v,n]) w:=by
 have f:m[a]?.getD undef=π (σ ⟨p,0,ν⟩):=by simpa using e
 simp[results,b,f,go_sem,c,d];try rfl
