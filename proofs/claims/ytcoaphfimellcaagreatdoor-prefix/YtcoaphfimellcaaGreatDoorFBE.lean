import Derived.Test.YtcoaphfimellcaaGreatDoorFBD
import Derived.Lib.ItoaLen
import Derived.Lib.AppendIntMem
set_option maxHeartbeats 0
set_option maxRecDepth 100000
namespace Go.Proofs.YtcoaphfimellcaaGreatDoor
open Go.RowKit
open _root_.Go.Proofs.Tryz
open Option renaming some→σ,none→ν
open Go renaming World→ω,Value→υ
open Go.RowKit renaming Below→δ
open Go.Value renaming string→θ,slice→ψ,pointer→π
variable{p i:Nat}{m:Array υ}{x:ω}{v n:υ}
def vR(w:ω):Prop:=Lib.TabIs prog w "internal/strconv.uint64pow10" .u64 Lib.pow10Tab
theorem vR.below{w:ω}(a:vR w)(c:δ p w x)(b:w.heap.size<=p):vR x:=Lib.tabBelow_of_tabIs a x (c.mono b)
def wrL(c:aB)(k:Nat):List UInt8:=if c.null then[110,117,108,108]else if k=1 then[39]++c.s.data.toList++[39]else if k=2 then Lib.formatBool (decide (c.n=1))else Lib.itoa c.n
theorem XI{b:aB}(a:Lq p b):(wrL b p).length<=21:=by unfold wrL;split;{decide};split;{have c:=Jg a;simp;omega};split;{unfold Lib.formatBool;split<;>decide};exact Lib.itoa_length_le _ a.1.1 a.1.2
theorem Ry{c:aB}{k:Nat}(v:k<=2)(e:S.cR c.n){w:ω}(i:vR w)(j:c.s.size<=12) :
 Calls prog 98 #[.agg #[.bool c.null,.int .i64 c.n,θ c.s],.int .i64 k] w λd y=>d=.returned (θ ⟨(wrL c k).toArray⟩)/\δ w.heap.size w y:=by
 obtain⟨g,m,o⟩:=c;have n:δ w.heap.size w (w.alloc (.cells #[.bool g,.int .i64 m,θ o] 229)):=(ah _ _).alloc (ae _) _;have s:=au (λ(w1:ω) (b:δ w.heap.size w w1)=>Tryz.strconv_Itoa m e.1 e.2 w1 (i.below b (ae _)));have r:=au (λ(u:Bool) (w1:ω)=>Tryz.strconv_FormatBool u w1);have a:=n;have p:=au (λ(w1:ω) (b:δ w.heap.size w w1) k f=>b.trans (Lib.below_grow w.heap.size w1 b.size k f));have A:o.size+2<=1000:=by simp at j;omega
 clear i n e j;go_in;cases g;(case true=>go_wp2_with fail;go_ret;exact⟨rfl,a⟩);case false=>
  have t:k=0\/k=1\/k=2:=by omega
  clear v;rcases t with rfl|rfl|rfl
  {go_wp2_with fail;refine(s.J _ a).mono ?_;rintro d w1 ⟨rfl,k,f,rfl⟩;have x:=p.J _ a k f;go_wp2_with fail;go_ret;exact⟨rfl,x⟩};{go_wp2_with fail;go_ret;exact⟨a7 (λz=>Ending.returned (Value.string z)) (pN (Array.ext' (by simp[wrL]))),a⟩};go_wp2_with fail;refine(r.J _ _).mono ?_;rintro d w1 ⟨rfl,rfl⟩;go_wp2_with fail;go_ret;exact⟨rfl,a⟩
def G6(i:Nat):List UInt8:=if i=0 then[]else[44]
theorem JN{l:List UInt8}{w:ω}(a:Nat)(b:PG p i l w)(o:l.length<=1000000)(n:p<=w.heap.size) :
 Calls prog 95 #[π (σ ⟨i,0,ν⟩),.int .i64 a] w λd g=>d=.returned (.tuple #[])/\PG p i (l++G6 a) g/\sT p i w g:=by have m:=b;have k:=Ed 44 b o n;clear b;go_in;by_cases f:a=0;{subst f;go_wp2_with fail;refine bodyPost_end (ui rfl _ _ _) rfl ?_;exact⟨rfl,by simpa[G6]using m,sT.refl _ _ _⟩};have s:(0:Int)<a:=(by omega);go_wp2_with fail;refine k.mono ?_;rintro d w1 ⟨rfl,e,c⟩;have j:=e;have r:=c;clear e c;go_wp2_with fail;refine bodyPost_end (ui rfl _ _ _) rfl ?_;exact⟨rfl,by simpa[G6,f]using j,r⟩
def Cf(k:Nat):ByteArray:=if k=0 then⟨#[105,110,116]⟩else if k=1 then⟨#[115,116,114]⟩else⟨#[98,111,111,108]⟩
def qS(w:ω):Prop:=1<w.heap.size/\∀k,k<=2->w.cell? ⟨1,k,ν⟩=σ (θ (Cf k))
theorem qS.below{w:ω}(a:qS w)(b:δ i w x)(d:w.heap.size<=i):qS x:=⟨ai a.1 b.size,λc e=>(b.cell (p:=⟨1,c,ν⟩) (ai a.1 d)).trans (a.2 c e)⟩
def yw(cols:List bu)(j:Nat):List UInt8:=match cols[j]? with|some c=>G6 j++c.1.data.toList++[58]++(Cf c.2).data.toList|none=>[]
def qT(cols:List bu)(i:Nat):List UInt8:=(List.range i).flatMap (yw cols)
def fieldAt(cols:List bu)(row:List aB)(j:Nat):List UInt8:=match cols[j]? with|some c=>G6 j++wrL (row.getD j gp) c.2|none=>[]
def pC(cols:List bu)(row:List aB)(i:Nat):List UInt8:=(List.range i).flatMap (fieldAt cols row)
def JO(cols:List bu)(R:List (List aB))(r:Nat):List UInt8:=match R[r]? with|some row=>pC cols row cols.length++[10]|none=>[]
def nI(cols:List bu)(R:List (List aB))(i:Nat):List UInt8:=(List.range i).flatMap (JO cols R)
def sU(cols:List bu)(R:List (List aB)):List UInt8:=qT cols cols.length++[10]++nI cols R R.length
theorem yx{c:Type}(a:Nat->List c)(b:Nat):(List.range (b+1)).flatMap a=(List.range b).flatMap a++a b:=by rw[tG,fI];simp
theorem yz{e:Type}(c:Nat->List e)(d:Nat):∀a,(∀b,b<a->(c b).length<=d)->((List.range a).flatMap c).length<=a*d
 |0,_=>by simp
 |a+1,h=>by
   have:=yz c d a (λb f=>h b (by omega));have:=h a (by omega);rw[yx,aw,oM];omega
def uc(cols:List bu):Prop:=cols.length<=5/\∀c∈cols,Nm8 c.1/\c.2<=2
def mS(cols:List bu):Prop:=cols.length<=302/\∀c∈cols,Nm8 c.1/\c.2<=2
theorem uc.few{cols:List bu}(a:uc cols):mS cols:=⟨ag a.1 (by decide),a.2⟩
theorem xh(a:Nat):(G6 a).length<=1:=by unfold G6;split<;>simp
theorem JQ{cols:List bu}(c:mS cols)(b:Nat):(yw cols b).length<=20:=by unfold yw;split;{rename_i a e;have f:=(c.2 a (aA e)).1.1;have g:=xh b;have d:(Cf a.2).data.toList.length<=4:=(by unfold Cf;split;decide;split<;>decide);simp only[List.length_append,List.length_cons,List.length_nil,Array.length_toList,ByteArray.size_data]at d ⊢;omega};simp
theorem Gb{cols:List bu}{row:List aB}(c:zZ cols row)(a:Nat):(fieldAt cols row a).length<=30:=by unfold fieldAt;split;{rename_i d b;have e:a<row.length:=(by rw[c.1];exact(aj.mp b).1);have f:=XI (c.2 a (row.getD a gp) d (by simp[List.getD,List.getElem?_eq_getElem e]) b);have g:=xh a;rw[aw];omega};simp
theorem JR{cols:List bu}{a:List (List aB)}(f:cols.length<=302)(b:fH cols a)(e:Nat):(JO cols a e).length<=10000:=by unfold JO;split;{rename_i row c;have:=yz (fieldAt cols row) 30 cols.length (λd _=>Gb (b row (aA c)) d);unfold pC;rw[aw,gE];omega};simp
theorem Rz{cols:List bu}{a:bu}(b:cols[p]?=σ a):qT cols (p+1)=qT cols p++G6 p++a.1.data.toList++[58]++(Cf a.2).data.toList:=by unfold qT;rw[yx];simp[yw,b]
theorem RA{cols:List bu}{row:List aB}{a:bu}(b:cols[p]?=σ a):pC cols row (p+1)=pC cols row p++G6 p++wrL (row.getD p gp) a.2:=by unfold pC;rw[yx];simp[fieldAt,b]
theorem yA{cols:List bu}{R:List (List aB)}{r:Nat}{row:List aB}(a:R[r]?=σ row):nI cols R (r+1)=nI cols R r++pC cols row cols.length++[10]:=by unfold nI;rw[yx];simp[JO,a]
def G7(w W0 wr:ω)(l:List UInt8):Prop:=PG (w.heap.size+1) (w.heap.size+1) l wr/\δ (w.heap.size+1) W0 wr
section
variable {w W0 wr w1:ω} {l l1:List UInt8}
theorem G7.big(b:G7 w W0 wr l):w.heap.size+1<wr.heap.size:=by rcases b.1 with⟨-,c,a,-⟩|⟨-,c,a,-⟩<;>exact ay a
theorem G7.below(a:G7 w W0 wr l)(b:δ wr.heap.size wr w1):G7 w W0 w1 l:=⟨a.1.below b,a.2.trans (b.mono (gJ a.big))⟩
theorem G7.wrote(a:G7 w W0 wr l)(b:PG (w.heap.size+1) (w.heap.size+1) l1 w1)(c:sT (w.heap.size+1) (w.heap.size+1) wr w1):G7 w W0 w1 l1:=⟨b,a.2.trans c.1⟩
end
theorem sT.keeps{B:Nat}{w:ω}{b:TypeId}{c:Nat×Nat}(d:sT B p w x)(f:w.heap[i]?=σ (.cells m b c))(e:i≠p)(g:b≠5):x.heap[i]?=σ (.cells m b c):=
 d.2 i _ f (λa=>e (bk a)) (λj fz a=>by cases a;exact g rfl)
theorem br{w1:ω}{t:TypeId}(a:w1.heap[p]?=σ (.cells #[v,n] t (0,0))):w1.cell? ⟨p,0,ν⟩=σ v/\w1.cell? ⟨p,1,ν⟩=σ n:=by simp[World.cell?,a]
theorem ad7{cols:List bu}{d:List (List aB)}{w:ω}(X:mS cols)(hR:fH cols d)(bt:d.length<=64)(a9:0<cols.length)(hc:eT w v cols)(hb:fl w n (bh cols.length d))(hk:qS w)(hp:vR w) :
 Calls prog 71 #[.agg #[v,n]] w λk w'=>k=.returned (θ ⟨(sU cols d).toArray⟩)/\δ w.heap.size w w':=by
 obtain⟨R,jd,rfl⟩:=hc.slice;have⟨Q,Z,r⟩:=hb.slice;rw[bE]at r;subst r;have⟨W0,B⟩:=nm (w.alloc (xG R cols.length jd Q cols.length Z));have ny:=pq B;have lU:W0.heap.size=w.heap.size+1:=by rw[B];simp
 have eK:W0.heap[w.heap.size]?=σ (xG R cols.length jd Q cols.length Z):=by rw[B];exact ak w _
 have x:=au (λwr (U:δ (w.heap.size+1) W0 wr)=>(show eT wr (ψ R cols.length jd) cols/\fl wr (ψ Q cols.length Z) (bh cols.length d)/\(wr.cell? ⟨w.heap.size,0,ν⟩=σ (ψ R cols.length jd)/\wr.cell? ⟨w.heap.size,1,ν⟩=σ (ψ Q cols.length Z))/\qS wr/\vR wr from by
  have V:δ w.heap.size w wr:=ny.trans (U.mono (by omega));exact⟨hc.below V (ae _),hb.below V (ae _),br ((U.block _ (by omega)).trans eK),hk.below V (ae _),hp.below V (ae _)⟩))
 have a8:=au (λwr (U:δ (w.heap.size+1) W0 wr)=>ny.trans (U.mono (bF _)));have a4:Hid (G7 w W0 (W0.alloc (.cells #[π ν,ψ ν 0 0] 220)) []):=au ⟨by
  have:=Lib.fresh_isBuilder 220 5 W0;rw[lU]at this;exact this,by rw[<- lU];exact(ah _ _).alloc (ae _) _⟩
 have⟨z0,z1⟩:=br eK;have Tq:=au B;have HF:=au X;have HR:=au hR;have h5:=X.1;have ab:Hid (∀a,a<=cols.length->(qT cols a).length<=6100):=au (λa y=>ag (yz _ 20 a (λK _=>JQ X K)) (by omega));have FX:Hid (∀f,f<=d.length->(nI cols d f).length<=640000):=au (λf hr=>ag (yz _ 10000 f (λK _=>JR h5 hR K)) (by omega));clear hc hb hk hp ny lU eK X hR B;go_in;go_wp2_with fail;rw[<- Tq.J];go_loopw[12] (λb wr=>∃a:Nat,a<=cols.length/\b=.int .i64 a/\Hid (G7 w W0 wr (qT cols a))) (λb _=>cols.length - (intOf b).toNat);case atStart=>exact⟨0,aI _,rfl,a4⟩
 case round=>
  obtain⟨a,y,rfl,g⟩:=hrel;by_cases I:a<cols.length;{have jY:(a:Int)<cols.length:=(by omega);obtain⟨b,o⟩:∃b,cols[a]?=σ b:=⟨_,af I⟩;obtain⟨⟨bb,-⟩,MH⟩:=HF.J.2 b (aA o);obtain⟨E,-,-,-⟩:=x.J wr g.J.2;have⟨cg,co,Qf,r,d0,d1⟩:=eT.get E o;cases r;have⟨W1,s⟩:=nm (wr.alloc (obI b.1 b.2));have H:=pq s;have L:W1.heap[wr.heap.size]?=σ (obI b.1 b.2):=(by rw[s];exact ak wr _);have M:=au L;have p:=au (g.J.below H);have a5:=g.J.big;have i:=au (JN a p.J.1 (ag (ab.J a y) (by omega)) (gJ p.J.big));have O:=au (Rz o);have C:=ab.J a y;have FW:=au s;clear s H L E o;go_wp2_with fail;rw[<- FW.J];refine i.J.mono ?_;rintro k w1 ⟨rfl,e,c⟩;have j:=au (p.J.wrote e c);have D:=au (c.keeps M.J (by omega) (by decide));have am:=au (OP b.1 e (by rw[aw];have:=xh a;omega) (by omega) (gJ j.J.big));have⟨q0,q1⟩:=br D.J;clear e c i M p d0 d1;go_wp2_with fail;refine am.J.mono ?_;rintro k u ⟨rfl,e,c⟩;have m:=au (j.J.wrote e c);have FT:=au (c.keeps D.J (by omega) (by decide));have an:=au (Ed 58 e (by simp only[List.length_append,Array.length_toList,ByteArray.size_data];have:=xh a;omega) (gJ m.J.big));clear e c am D j q0 q1;go_wp2_with fail;refine an.J.mono ?_;rintro k w3 ⟨rfl,e,c⟩;have P:=au (m.J.wrote e c);have Xh:=au (c.keeps FT.J (by omega) (by decide));have bc:(Cf b.2).size<=4:=(by unfold Cf;split;decide;split<;>decide);have ao:=au (OP (Cf b.2) e (by simp only[List.length_append,Array.length_toList,ByteArray.size_data,List.length_cons,List.length_nil];have:=xh a;omega) (by omega) (gJ P.J.big));have⟨q0,q1⟩:=br Xh.J;obtain⟨-,-,-,zR,-⟩:=x.J w3 P.J.2;have k0:=zR.2 b.2 MH;have be:((b.2:Nat):Int)<3:=(by omega);clear e c an FT m zR bc;go_wp2_with fail;refine ao.J.mono ?_;rintro k w4 ⟨rfl,e,c⟩;have ar:=au (P.J.wrote e c);rw[<- O.J]at ar;clear e c ao Xh P q0 q1 k0;go_wp2;go_roundw;(case rel=>exact⟨a+1,by omega,by go_num,ar⟩);case measure=>simp[intOf];omega}
  obtain rfl:a=cols.length:=by omega
  have C:=ab.J cols.length (ae _);have i:=au (Ed 10 g.J.1 (by omega) (gJ g.J.big));clear z0 z1;go_wp2_with fail;refine i.J.mono ?_;rintro k w1 ⟨rfl,e,c⟩;have j:=au (g.J.wrote e c);obtain⟨-,av,⟨z0,z1⟩,-,-⟩:=x.J w1 j.J.2;have N:=au (sQ av (ig (R:=d) a9));rw[aR]at N;clear e c i g;have⟨A,G⟩:=nm (qT cols cols.length++[10]);have xD:A.length<=6101:=by rw[G,aw];simp;omega
  have a2:Hid (sU cols d=A++nI cols d d.length):=au (by rw[G];rfl);have W8:Hid (A=qT cols cols.length++[10]):=au G;rw[<- G]at j;clear G C av;go_wp2_with fail;refine N.J.mono ?_;rintro k w' ⟨rfl,rfl⟩;go_wp2;go_loopw[33] (λb wr=>∃f:Nat,f<=d.length/\b=.int .i64 f/\Hid (G7 w W0 wr (A++nI cols d f))) (λb _=>d.length - (intOf b).toNat);case atStart=>exact⟨0,aI _,rfl,by simpa[nI]using j⟩
  case round=>
   obtain⟨f,hr,rfl,F⟩:=hrel;by_cases bd:f<d.length
   .have bi:(f:Int)<d.length:=(by omega);obtain⟨row,T⟩:∃row,d[f]?=σ row:=⟨_,af bd⟩;have ac:=au (HR.J row (aA T));have aq:=au (yA (cols:=cols) T);have N:=au T;have IK:=FX.J f hr;have⟨z,Y⟩:=nm (A++nI cols d f);have bl:z.length<=647000:=(by rw[Y,aw];omega);have Y9:Hid (A++nI cols d (f+1)=z++pC cols row cols.length++[10]):=au (by rw[aq.J,Y];simp);rw[<- Y]at F;have ap:Hid (∀a,a<=cols.length->(pC cols row a).length<=9060):=au (λa y=>ag (yz _ 30 a (λK _=>Gb ac.J K)) (by omega));obtain⟨-,-,⟨y0,y1⟩,-,-⟩:=x.J wr F.J.2;clear Y aq T z0 z1;go_wp2;go_loopw[39] (λb wr=>∃a:Nat,a<=cols.length/\b=.int .i64 a/\Hid (G7 w W0 wr (z++pC cols row a))) (λb _=>cols.length - (intOf b).toNat);(case atStart=>exact⟨0,aI _,rfl,by simpa[pC]using F⟩);case round=>
     obtain⟨a,y,rfl,g⟩:=hrel;by_cases I:a<cols.length
     .have jY:(a:Int)<cols.length:=(by omega);obtain⟨b,o⟩:∃b,cols[a]?=σ b:=⟨_,af I⟩;obtain⟨⟨bb,-⟩,MH⟩:=HF.J.2 b (aA o);obtain⟨E,-,-,-⟩:=x.J wr g.J.2;have⟨cg,co,Qf,r,d0,d1⟩:=eT.get E o;cases r;have⟨W1,s⟩:=nm (wr.alloc (obI b.1 b.2));have H:=pq s;have L:W1.heap[wr.heap.size]?=σ (obI b.1 b.2):=(by rw[s];exact ak wr _);have M:=au L;have p:=au (g.J.below H);have a5:=g.J.big;have C:=ap.J a y;have Aa:(z++pC cols row a).length<=657000:=(by rw[aw];omega);have i:=au (JN a p.J.1 (by omega) (gJ p.J.big));have O:=au (RA (row:=row) o);have a1:a<row.length:=(by rw[ac.J.1];exact I);obtain⟨t,hx⟩:∃t,row[a]?=σ t:=⟨_,af a1⟩;have ad:row.getD a gp=t:=(by simp[List.getD,hx]);rw[ad]at O;have aC:=ac.J.2 a t b hx o;have aa:=au aC;have al:Hid ((bh cols.length d)[a]?=σ (d.map λf=>f.getD a gp)/\(d.map λf=>f.getD a gp)[f]?=σ t):=au ⟨ig I,by rw[aU,N.J];exact a7 σ ad⟩;have FW:=au s;clear s H L E o hx ad aC a1 C;go_wp2_with fail;rw[<- FW.J];refine i.J.mono ?_;rintro k w1 ⟨rfl,e,c⟩;have j:=au (p.J.wrote e c);have D:=au (c.keeps M.J (by omega) (by decide));have iC:=au e;have⟨q0,q1⟩:=br D.J;obtain⟨-,ax,⟨x0,x1⟩,-,a0⟩:=x.J w1 j.J.2;obtain⟨bg,bo,bm,bw,r,-,b0,hu⟩:=ax.Og al.J.1;rw[bE]at r;cases r
      obtain⟨vg,vo,dG,rfl,v0,v1,v2⟩:=nF.get hu al.J.2;rw[aR]at b0;have Uu:=au (Ry (w:=w1.drew) (c:=t) (k:=b.2) MH aa.J.1 (a0.below (aH (ah _ _)) (ae _)) (Jg aa.J));clear e c i M p d0 d1 ax a0 hu;have uG:=au (λ(u:ω) (W:δ w1.heap.size w1 u)=>j.J.below W);have a3:=au (λ(u:ω) (W:δ w1.heap.size w1 u)=>OP ⟨(wrL t b.2).toArray⟩ (j.J.below W).1 (by rw[aw];have:=xh a;omega) (by have:=XI aa.J;show(wrL t b.2).toArray.size<=_;rw[jH];omega) (gJ (j.J.below W).big));go_wp2_with fail;go_region_with(first
       | (go_at_call 98;refine Uu.J.mono ?_;rintro k u ⟨rfl,cV⟩;have jS:=au ((aH (ah w1.heap.size w1)).trans cV);clear cV)
       | (go_at_call 96;refine(a3.J _ jS.J).mono ?_;rintro k w3 ⟨rfl,ql,E7⟩;have m:=au ((uG.J _ jS.J).wrote ql E7);clear ql E7))
      all_goals rw[show z++pC cols row a++G6 a++(ByteArray.mk (wrL t b.2).toArray).data.toList=z++pC cols row (a+1)by rw[O.J];simp]at m;(try go_wp2_with fail);go_roundw;(case rel=>exact⟨a+1,by omega,by go_num,m⟩);case measure=>simp[intOf];omega
     obtain rfl:a=cols.length:=by omega
     have C:=ap.J cols.length (ae _);have i:=au (Ed 10 g.J.1 (by rw[aw];omega) (gJ g.J.big));clear y0 y1;go_wp2_with fail;refine i.J.mono ?_;rintro k u ⟨rfl,e,c⟩;have m:=au (g.J.wrote e c);rw[<- Y9.J]at m;clear e c i g;go_wp2_with fail
     first
     |exact⟨⟨f+1,by omega,by go_num,m⟩,by simp[intOf];omega⟩
     | (go_roundw
        case rel=>exact⟨f+1,by omega,by go_num,m⟩
        case measure=>simp[intOf];omega)
   obtain rfl:f=d.length:=(by omega);have IK:=FX.J d.length (ae _);have i:=au (ad5 F.J.1 (by rw[W8.J];exact List.append_ne_nil_of_left_ne_nil (by simp) _) (by rw[aw];omega));clear z0 z1;go_wp2_with fail;refine i.J.mono ?_;rintro k u ⟨rfl,c⟩;have HE:=au (a8.J _ (F.J.2.trans c));clear c i;go_wp2;go_ret;exact⟨by rw[a2.J];rfl,HE.J⟩
theorem sX{fn:Func}{a:Tmp}(b:fn.results=#[.cell a 76]){w:ω}(e:m.getD a undef=π (σ ⟨p,0,ν⟩))(c:w.cell? ⟨p,0,ν⟩=σ v)(d:w.cell? ⟨p,1,ν⟩=σ n):(results fn m).run prog w=.ok (.agg #[v,n]) w:=by
 have f:m[a]?.getD undef=π (σ ⟨p,0,ν⟩):=by simpa using e
 simp[results,b,f,go_sem,c,d];try rfl
