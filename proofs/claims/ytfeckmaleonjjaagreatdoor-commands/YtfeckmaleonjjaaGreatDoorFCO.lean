import Derived.Test.YtfeckmaleonjjaaGreatDoorFCM
import Derived.Lib.ItoaLen
import Derived.Lib.AppendIntMem
set_option maxHeartbeats 0
set_option maxRecDepth 100000
namespace Go.Proofs.YtfeckmaleonjjaaGreatDoor
open List renaming length→Λ
open Go.RowKit
open _root_.Go.Proofs.Tryz
open Option renaming some→σ,none→ν
open Go.Obj renaming cells→ξ
open Go renaming World→ω,Value→υ
open Go.RowKit renaming Below→δ
open Go.Value renaming string→θ,slice→ψ,pointer→π
variable{p i:Nat}{m:Array υ}{x:ω}{v n:υ}
def vR(w:ω):Prop:=Lib.TabIs prog w "internal/strconv.uint64pow10" .u64 Lib.pow10Tab
theorem vR.aU{w:ω}(a:vR w)(c:δ p w x)(b:w.heap.size<=p):vR x:=Lib.tabBelow_of_tabIs a x (c.mono b)
def wrL(c:aF)(k:Nat):Δ UInt8:=if c.bH then[110,117,108,108]else if k=1 then[39]++c.s.data.toList++[39]else if k=2 then Lib.formatBool (decide (c.n=1))else Lib.itoa c.n
theorem WS{b:aF}(a:acF p b):(wrL b p).length<=21:=by unfold wrL;split;{decide};split;{have c:=Jd a;simp;omega};split;{unfold Lib.formatBool;split<;>decide};exact Lib.itoa_length_le _ a.1.1 a.1.2
theorem Rl{c:aF}{k:Nat}(u:k<=2)(e:S.dK c.n){w:ω}(i:vR w)(j:c.s.size<=12) :
 Calls prog 118 #[.agg #[.bool c.bH,.int .i64 c.n,θ c.s],.int .i64 k] w λd x=>d=.returned (θ ⟨(wrL c k).toArray⟩)/\δ w.heap.size w x:=by
 obtain⟨g,m,o⟩:=c;have n:δ w.heap.size w (w.alloc (ξ #[.bool g,.int .i64 m,θ o] 263)):=(aj _ _).alloc (ae _) _;have r:=ak (λ(w1:ω) (b:δ w.heap.size w w1)=>Tryz.strconv_Itoa m e.1 e.2 w1 (i.aU b (ae _)));have p:=ak (λ(t:Bool) (w1:ω)=>Tryz.strconv_FormatBool t w1);have a:=n;have s:=ak (λ(w1:ω) (b:δ w.heap.size w w1) k f=>b.trans (Lib.below_grow w.heap.size w1 b.size k f));have A:o.size+2<=1000:=by simp at j;omega
 clear i n e j;go_in;cases g;(case true=>go_wp2;go_ret;exact⟨rfl,a⟩);case false=>
  have y:k=0\/k=1\/k=2:=by omega
  clear u;rcases y with rfl|rfl|rfl
  {go_wp21;refine(r.J _ a).mono ?_;rintro d w1 ⟨rfl,k,f,rfl⟩;have v:=s.J _ a k f;go_wp2;go_ret;exact⟨rfl,v⟩};{go_wp2;go_ret;exact⟨bI (λz=>Ending.returned (Value.string z)) (wO (Array.ext' (by simp[wrL]))),a⟩};go_wp21;refine(p.J _ _).mono ?_;rintro d w1 ⟨rfl,rfl⟩;go_wp2;go_ret;exact⟨rfl,a⟩
def Lh(i:Nat):Δ UInt8:=if i=0 then[]else[44]
theorem Jy{l:Δ UInt8}{w:ω}(a:Nat)(b:OX p i l w)(o:Λ l<=1000000)(n:p<=w.heap.size) :
 Calls prog 115 #[π (σ ⟨i,0,ν⟩),.int .i64 a] w λd g=>d=.returned (.tuple #[])/\OX p i (l++Lh a) g/\tM p i w g:=by have m:=b;have k:=Ep 44 b o n;clear b;go_in;by_cases f:a=0;{subst f;go_wp2;refine bodyPost_end (results_none rfl _ _ _) rfl ?_;exact⟨rfl,by simpa[Lh]using m,tM.refl _ _ _⟩};have s:(0:Int)<a:=(by omega);go_wp21;refine k.mono ?_;rintro d w1 ⟨rfl,e,c⟩;have j:=e;have r:=c;clear e c;go_wp2;refine bodyPost_end (results_none rfl _ _ _) rfl ?_;exact⟨rfl,by simpa[Lh,f]using j,r⟩
def Er(k:Nat):Γ:=if k=0 then⟨#[105,110,116]⟩else if k=1 then⟨#[115,116,114]⟩else⟨#[98,111,111,108]⟩
def rM(w:ω):Prop:=1<w.heap.size/\∀k,k<=2->w.cell? ⟨1,k,ν⟩=σ (θ (Er k))
theorem rM.aU{w:ω}(a:rM w)(b:δ i w x)(d:w.heap.size<=i):rM x:=⟨aw a.1 b.size,λc e=>(b.cell (p:=⟨1,c,ν⟩) (aw a.1 d)).trans (a.2 c e)⟩
def N6(cy:Δ bU)(j:Nat):Δ UInt8:=match cy[j]? with|some c=>Lh j++c.1.data.toList++[58]++(Er c.2).data.toList|none=>[]
def AF(cy:Δ bU)(i:Nat):Δ UInt8:=(List.range i).flatMap (N6 cy)
def fieldAt(cy:Δ bU)(row:Δ aF)(j:Nat):Δ UInt8:=match cy[j]? with|some c=>Lh j++wrL (row.getD j fj) c.2|none=>[]
def sQ(cy:Δ bU)(row:Δ aF)(i:Nat):Δ UInt8:=(List.range i).flatMap (fieldAt cy row)
def N7(cy:Δ bU)(R:Δ (Δ aF))(r:Nat):Δ UInt8:=match R[r]? with|some row=>sQ cy row (Λ cy)++[10]|none=>[]
def tu(cy:Δ bU)(R:Δ (Δ aF))(i:Nat):Δ UInt8:=(List.range i).flatMap (N7 cy R)
def Rm(cy:Δ bU)(R:Δ (Δ aF)):Δ UInt8:=AF cy (Λ cy)++[10]++tu cy R (Λ R)
theorem yP{c:Type}(a:Nat->Δ c)(b:Nat):(List.range (b+1)).flatMap a=(List.range b).flatMap a++a b:=by rw[qz,cX];simp
theorem Et{e:Type}(c:Nat->Δ e)(d:Nat):∀a,(∀b,b<a->(c b).length<=d)->((List.range a).flatMap c).length<=a*d
 |0,_=>by simp
 |a+1,h=>by
   have:=Et c d a (λb f=>h b (by omega));have:=h a (by omega);rw[yP,au,nU];omega
def Bj(cy:Δ bU):Prop:=Λ cy<=5/\∀c∈cy,c.1.size<=8/\c.2<=2
theorem xI(a:Nat):(Lh a).length<=1:=by unfold Lh;split<;>simp
theorem U1{b:Δ bU}(d:Bj b)(c:Nat):(N6 b c).length<=20:=by unfold N6;split;{rename_i a f;have g:=(d.2 a (aq f)).1;have i:=xI c;have e:(Er a.2).data.toList.length<=4:=(by unfold Er;split;decide;split<;>decide);simp only[List.length_append,List.length_cons,List.length_nil,Array.length_toList,ByteArray.size_data]at e ⊢;omega};simp
theorem Gc{b:Δ bU}{row:Δ aF}(d:NV b row)(a:Nat):(fieldAt b row a).length<=30:=by unfold fieldAt;split;{rename_i e c;have f:a<Λ row:=(by rw[d.1];exact(ah.mp c).1);have g:=WS (d.2 a (row.getD a fj) e (by simp[List.getD,List.getElem?_eq_getElem f]) c);have i:=xI a;rw[au];omega};simp
theorem U2{a:Δ bU}{b:Δ (Δ aF)}(g:Λ a<=5)(c:nB a b)(f:Nat):(N7 a b f).length<=200:=by unfold N7;split;{rename_i row d;have:=Et (fieldAt a row) 30 (Λ a) (λe _=>Gc (c row (aq d)) e);unfold sQ;rw[au,eC];omega};simp
theorem Rn{b:Δ bU}{a:bU}(c:b[p]?=σ a):AF b (p+1)=AF b p++Lh p++a.1.data.toList++[58]++(Er a.2).data.toList:=by unfold AF;rw[yP];simp[N6,c]
theorem Ro{a:Δ bU}{row:Δ aF}{b:bU}(c:a[p]?=σ b):sQ a row (p+1)=sQ a row p++Lh p++wrL (row.getD p fj) b.2:=by unfold sQ;rw[yP];simp[fieldAt,c]
theorem N8{cy:Δ bU}{a:Δ (Δ aF)}{row:Δ aF}(b:a[p]?=σ row):tu cy a (p+1)=tu cy a p++sQ cy row (Λ cy)++[10]:=by unfold tu;rw[yP];simp[N7,b]
def GI(w W0 wr:ω)(l:Δ UInt8):Prop:=OX (w.heap.size+1) (w.heap.size+1) l wr/\δ (w.heap.size+1) W0 wr
section
variable {w W0 wr w1:ω} {l l1:Δ UInt8}
theorem GI.big(b:GI w W0 wr l):w.heap.size+1<wr.heap.size:=by rcases b.1 with⟨-,c,a,-⟩|⟨-,c,a,-⟩<;>exact aA a
theorem GI.aU(a:GI w W0 wr l)(b:δ wr.heap.size wr w1):GI w W0 w1 l:=⟨a.1.aU b,a.2.trans (b.mono (gZ a.big))⟩
theorem GI.wrote(a:GI w W0 wr l)(b:OX (w.heap.size+1) (w.heap.size+1) l1 w1)(c:tM (w.heap.size+1) (w.heap.size+1) wr w1):GI w W0 w1 l1:=⟨b,a.2.trans c.1⟩
end
theorem tM.keeps{a:Nat}{w:ω}{c:TypeId}{d:Nat×Nat}(e:tM p i w x)(g:w.heap[a]?=σ (ξ m c d))(f:a≠i)(j:c≠5):x.heap[a]?=σ (ξ m c d):=
 e.2 a _ g (λb=>f (bh b)) (λk fz b=>by cases b;exact j rfl)
theorem bQ{w1:ω}{t:TypeId}(a:w1.heap[p]?=σ (ξ #[v,n] t (0,0))):w1.cell? ⟨p,0,ν⟩=σ v/\w1.cell? ⟨p,1,ν⟩=σ n:=by simp[World.cell?,a]
theorem ac6{a:Δ bU}{e:Δ (Δ aF)}{w:ω}(X:Bj a)(hR:nB a e)(bd:Λ e<=1000)(hc:eK w v a)(hb:ft w n (dq (Λ a) e))(hk:rM w)(hp:vR w) :
 Calls prog 82 #[.agg #[v,n,.int .i64 (Λ e)]] w λm w'=>m=.returned (θ ⟨(Rm a e).toArray⟩)/\δ w.heap.size w w':=by
 obtain⟨R,nj,rfl⟩:=hc.slice;have⟨Q,vj,t⟩:=hb.slice;rw[cG]at t;subst t;obtain⟨W0,L⟩:∃W0,W0=w.alloc (ξ #[ψ R (Λ a) nj,ψ Q (Λ a) vj,.int .i64 (Λ e)] 185):=⟨_,rfl⟩;have qd:δ w.heap.size w W0:=by rw[L];exact(aj _ _).alloc (ae _) _
 have lB:W0.heap.size=w.heap.size+1:=by rw[L];simp
 have ij:W0.heap[w.heap.size]?=σ (ξ #[ψ R (Λ a) nj,ψ Q (Λ a) vj,.int .i64 (Λ e)] 185 (0,0)):=by rw[L];exact az w _
 have B:=ak (λwr (T:δ (w.heap.size+1) W0 wr)=>(show eK wr (ψ R (Λ a) nj) a/\ft wr (ψ Q (Λ a) vj) (dq (Λ a) e)/\(wr.cell? ⟨w.heap.size,0,ν⟩=σ (ψ R (Λ a) nj)/\wr.cell? ⟨w.heap.size,1,ν⟩=σ (ψ Q (Λ a) vj)/\wr.cell? ⟨w.heap.size,2,ν⟩=σ (.int .i64 (Λ e)))/\rM wr/\vR wr from by
  have U:δ w.heap.size w wr:=qd.trans (T.mono (by omega));exact⟨hc.aU U (ae _),hb.aU U (ae _),bN ((T.block _ (by omega)).trans ij),hk.aU U (ae _),hp.aU U (ae _)⟩))
 have a5:=(λwr (T:δ (w.heap.size+1) W0 wr)=>qd.trans (T.mono (dt _)));have a2:Hid (GI w W0 (W0.alloc (ξ #[π ν,ψ ν 0 0] 254)) []):=ak ⟨by
  have:=Lib.fresh_isBuilder 254 5 W0;rw[lB]at this;exact this,by rw[<- lB];exact(aj _ _).alloc (ae _) _⟩
 have⟨z0,z1,z2⟩:=bN ij;have a3:=ak L;have h5:=X.1;have aa:Hid (∀b,b<=Λ a->(AF a b).length<=100):=ak (λb C=>ay (Et _ 20 b (λM _=>U1 X M)) (by omega));have xV:Hid (∀g,g<=Λ e->(tu a e g).length<=200000):=ak (λg hr=>ay (Et _ 200 g (λM _=>U2 h5 hR M)) (by omega));clear hc hb hk hp qd lB ij L;go_in;go_wp2;rw[<- a3.J];go_loopw[12] (λc wr=>∃b:Nat,b<=Λ a/\c=.int .i64 b/\Hid (GI w W0 wr (AF a b))) (λc _=>Λ a - (intOf c).toNat);case atStart=>exact⟨0,aB _,rfl,a2⟩
 case round=>
  obtain⟨b,C,rfl,i⟩:=hrel;by_cases y:b<Λ a;{have gY:=aX.2 y;have⟨c,p⟩:=l9 y;have⟨a6,ac⟩:=X.2 c (aq p);obtain⟨E,-,-,-⟩:=B.J wr i.J.2;have⟨cg,co,Rc,t,d0,d1⟩:=eK.get E p;cases t;obtain⟨s,u⟩:∃s,s=wr.alloc (ξ #[θ c.1,.int .i64 c.2] 241):=⟨_,rfl⟩;have K:δ wr.heap.size wr s:=(by rw[u];exact(aj _ _).alloc (ae _) _);have N:s.heap[wr.heap.size]?=σ (ξ #[θ c.1,.int .i64 c.2] 241 (0,0)):=(by rw[u];exact az wr _);have D:=ak N;have r:=ak (i.J.aU K);have a4:=i.J.big;have j:=ak (Jy b r.J.1 (ay (aa.J b C) (by omega)) (gZ r.J.big));have O:=ak (Rn p);have H:=aa.J b C;have Ko:=ak u;clear u K N E p;go_wp21;rw[<- Ko.J];refine j.J.mono ?_;rintro m w1 ⟨rfl,f,d⟩;have k:=ak (r.J.wrote f d);have G:=ak (d.keeps D.J (by omega) (by decide));have al:=(N5 c.1 f (by rw[au];have:=xI b;omega) (by omega) (gZ k.J.big));have⟨q0,q1⟩:=bQ G.J;clear f d j D r d0 d1;go_wp21;refine al.mono ?_;rintro m z ⟨rfl,f,d⟩;have o:=ak (k.J.wrote f d);have EK:=ak (d.keeps G.J (by omega) (by decide));have am:=(Ep 58 f (by simp only[List.length_append,Array.length_toList,ByteArray.size_data];have:=xI b;omega) (gZ o.J.big));clear f d al G k q0 q1;go_wp21;refine am.mono ?_;rintro m w3 ⟨rfl,f,d⟩;have P:=(o.J.wrote f d);have ap:=ak (d.keeps EK.J (by omega) (by decide));have a7:(Er c.2).size<=4:=(by unfold Er;split;decide;split<;>decide);have an:=(N5 (Er c.2) f (by simp only[List.length_append,Array.length_toList,ByteArray.size_data,List.length_cons,List.length_nil];have:=xI b;omega) (by omega) (gZ P.big));have⟨q0,q1⟩:=bQ ap.J;obtain⟨-,-,-,A8,-⟩:=B.J w3 P.2;have k0:=A8.2 c.2 ac;have a8:((c.2:Nat):Int)<3:=(by omega);clear f d am EK o A8 a7;go_wp21;refine an.mono ?_;rintro m w4 ⟨rfl,f,d⟩;have ar:=ak (P.wrote f d);rw[<- O.J]at ar;clear f d an ap P q0 q1 k0;go_wp2;go_roundw;(case rel=>exact⟨b+1,by omega,by go_num,ar⟩);case measure=>simp[intOf];omega}
  obtain rfl:b=Λ a:=by omega
  have H:=aa.J (Λ a) (ae _);have j:=ak (Ep 10 i.J.1 (by omega) (gZ i.J.big));clear z0 z1 z2;go_wp21;refine j.J.mono ?_;rintro m w1 ⟨rfl,f,d⟩;have k:=ak (i.J.wrote f d);obtain⟨-,-,⟨z0,z1,z2⟩,-,-⟩:=B.J w1 k.J.2;clear f d j i;obtain⟨pre,I⟩:∃pre,pre=AF a (Λ a)++[10]:=⟨_,rfl⟩;have zi:Λ pre<=101:=by rw[I,au];simp;omega
  have TE:Hid (Rm a e=pre++tu a e (Λ e)):=ak (by rw[I];rfl);have a0:Hid (pre=AF a (Λ a)++[10]):=ak I;rw[<- I]at k;clear I H;go_wp2;go_loopw[32] (λc wr=>∃g:Nat,g<=Λ e/\c=.int .i64 g/\Hid (GI w W0 wr (pre++tu a e g))) (λc _=>Λ e - (intOf c).toNat);case atStart=>exact⟨0,aB _,rfl,by simpa[tu]using k⟩
  case round=>
   obtain⟨g,hr,rfl,F⟩:=hrel;by_cases aC:g<Λ e
   .have a9:=aX.2 aC;have⟨row,Z⟩:=l9 aC;have ab:=(hR row (aq Z));have zh:=ak (N8 (cy:=a) Z);have a1:=ak Z;have EL:=xV.J g hr;obtain⟨x,Y⟩:∃x,x=pre++tu a e g:=⟨_,rfl⟩;have bb:Λ x<=201000:=(by rw[Y,au];omega);have wR:Hid (pre++tu a e (g+1)=x++sQ a row (Λ a)++[10]):=ak (by rw[zh.J,Y];simp);rw[<- Y]at F;have ao:Hid (∀b,b<=Λ a->(sQ a row b).length<=150):=ak (λb C=>ay (Et _ 30 b (λM _=>Gc ab M)) (by omega));obtain⟨-,-,⟨y0,y1,y2⟩,-,-⟩:=B.J wr F.J.2;clear Y zh Z z0 z1 z2;go_wp2;go_loopw[38] (λc wr=>∃b:Nat,b<=Λ a/\c=.int .i64 b/\Hid (GI w W0 wr (x++sQ a row b))) (λc _=>Λ a - (intOf c).toNat);(case atStart=>exact⟨0,aB _,rfl,by simpa[sQ]using F⟩);case round=>
     obtain⟨b,C,rfl,i⟩:=hrel;by_cases y:b<Λ a
     .have gY:=aX.2 y;have⟨c,p⟩:=l9 y;have⟨a6,ac⟩:=X.2 c (aq p);obtain⟨E,-,-,-⟩:=B.J wr i.J.2;have⟨cg,co,Rc,t,d0,d1⟩:=eK.get E p;cases t;obtain⟨s,u⟩:∃s,s=wr.alloc (ξ #[θ c.1,.int .i64 c.2] 241):=⟨_,rfl⟩;have K:δ wr.heap.size wr s:=(by rw[u];exact(aj _ _).alloc (ae _) _);have N:s.heap[wr.heap.size]?=σ (ξ #[θ c.1,.int .i64 c.2] 241 (0,0)):=(by rw[u];exact az wr _);have D:=ak N;have r:=ak (i.J.aU K);have a4:=i.J.big;have H:=ao.J b C;have BT:(x++sQ a row b).length<=300000:=(by rw[au];omega);have j:=ak (Jy b r.J.1 (by omega) (gZ r.J.big));have O:=ak (Ro (row:=row) p);have aT:b<Λ row:=(by rw[ab.1];exact y);have⟨A,hx⟩:=l9 aT;have ag:row.getD b fj=A:=(by simp[List.getD,hx]);rw[ag]at O;have ad:=ab.2 b A c hx p;have ai:Hid ((dq (Λ a) e)[b]?=σ (e.map λg=>g.getD b fj)/\(e.map λg=>g.getD b fj)[g]?=σ A):=ak ⟨mP y,by rw[bp,a1.J];exact bI σ ag⟩;have Ko:=ak u;clear u K N E p hx ag aT H;go_wp21;rw[<- Ko.J];refine j.J.mono ?_;rintro m w1 ⟨rfl,f,d⟩;have k:=ak (r.J.wrote f d);have G:=ak (d.keeps D.J (by omega) (by decide));have⟨q0,q1⟩:=bQ G.J;obtain⟨-,av,⟨x0,x1,x2⟩,-,ax⟩:=B.J w1 k.J.2;obtain⟨bg,bo,bc,be,t,-,b0,hu⟩:=av.UR ai.J.1;rw[cG]at t;cases t
      obtain⟨vg,vo,eH,rfl,v0,v1,v2⟩:=dW.get hu ai.J.2;rw[bk]at b0;have LP:=(Rl (w:=w1.drew) (c:=A) (k:=c.2) ac ad.1 (ax.aU (aP (aj _ _)) (ae _)) (Jd ad));clear d j D r d0 d1 av ax hu;have lj:=(λ(z:ω) (V:δ w1.heap.size w1 z)=>k.J.aU V);have Gw:=(λ(z:ω) (V:δ w1.heap.size w1 z)=>N5 ⟨(wrL A c.2).toArray⟩ (k.J.aU V).1 (by rw[au];have:=xI b;omega) (by have:=WS ad;show(wrL A c.2).toArray.size<=_;rw[wm];omega) (gZ (k.J.aU V).big));go_wp2;go_region_with(first
       | (go_at_call 118;refine LP.mono ?_;rintro m z ⟨rfl,cW⟩;have fM:=ak ((aP (aj w1.heap.size w1)).trans cW);clear cW)
       | (go_at_call 116;refine(Gw _ fM.J).mono ?_;rintro m w3 ⟨rfl,N9,WT⟩;have o:=ak ((lj _ fM.J).wrote N9 WT);clear N9 WT))
      all_goals rw[show x++sQ a row b++Lh b++(ByteArray.mk (wrL A c.2).toArray).data.toList=x++sQ a row (b+1)by rw[O.J];simp]at o;(try go_wp2);go_roundw;(case rel=>exact⟨b+1,by omega,by go_num,o⟩);case measure=>simp[intOf];omega
     obtain rfl:b=Λ a:=by omega
     have H:=ao.J (Λ a) (ae _);have j:=ak (Ep 10 i.J.1 (by rw[au];omega) (gZ i.J.big));clear y0 y1 y2;go_wp21;refine j.J.mono ?_;rintro m z ⟨rfl,f,d⟩;have o:=ak (i.J.wrote f d);rw[<- wR.J]at o;clear d j i;go_wp2
     first
     |exact⟨⟨g+1,by omega,by go_num,o⟩,by simp[intOf];omega⟩
     | (go_roundw
        case rel=>exact⟨g+1,by omega,by go_num,o⟩
        case measure=>simp[intOf];omega)
   obtain rfl:g=Λ e:=(by omega);have EL:=xV.J (Λ e) (ae _);have j:=ak (ac5 F.J.1 (by rw[a0.J];exact List.append_ne_nil_of_left_ne_nil (by simp) _) (by rw[au];omega));clear z0 z1 z2;go_wp21;refine j.J.mono ?_;rintro m z ⟨rfl,d⟩;have HE:=(a5 _ (F.J.2.trans d));clear d j;go_wp2;go_ret;exact⟨by rw[TE.J];rfl,HE⟩
theorem tP{b:Func}{a:Tmp}(c:b.results=#[.cell a 77]){w:ω}(f:m.getD a undef=π (σ ⟨p,0,ν⟩))(d:w.cell? ⟨p,0,ν⟩=σ v)(e:w.cell? ⟨p,1,ν⟩=σ n):(results b m).run prog w=.ok (.agg #[v,n]) w:=by
 have g:m[a]?.getD undef=π (σ ⟨p,0,ν⟩):=by simpa using f
 simp[results,c,g,go_sem,d,e];try rfl
