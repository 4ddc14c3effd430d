import Derived.Test.YtcoaphfimellcaaGreatDoorFAN
import Derived.Test.YtcoaphfimellcaaGreatDoorFAO
set_option maxHeartbeats 0
set_option maxRecDepth 100000
namespace Go.Proofs.YtcoaphfimellcaaGreatDoor
open Go.RowKit
open _root_.Go.Proofs.Tryz
open Go renaming World→ω
open Go.Value renaming string→θ,slice→ψ,agg→χ
namespace S
def mI(dI:Bool)(k least:Int)(width:Nat)(c:Cl):List Bool:=
 (if dI then[c.null]else[])++(if c.null then[]else if k=1 then bitsOf c.s.size 4++jZ 7 c.s.data.toList else bitsOf (c.n - least).toNat width)
def fF(dI:Bool)(k least:Int)(width:Nat)(cs:List Cl):List Bool:=cs.flatMap (mI dI k least width)
theorem rV(a:Bool)(b c:Int)(d:Nat)(f:List Cl)(e:Cl):fF a b c d (f++[e])=fF a b c d f++mI a b c d e:=by simp[fF,List.flatMap_append]
theorem Lj(c:Bool)(d e:Int)(b:Nat)(a:Cl)(j:b<=64)(i:a.s.size<=12):(mI c d e b a).length<=89:=by
 unfold mI;rw[aw];have f:(if c then[a.null]else[]).length<=1:=by split<;>simp
 have g:(if a.null then[]else if d=1 then bitsOf a.s.size 4++jZ 7 a.s.data.toList else bitsOf (a.n - e).toNat b).length<=88:=(by split;{simp};split;{simp only[List.length_append,bP,lZ,ji];omega};rw[bP];omega);omega
theorem zS(c:Bool)(d e:Int)(b:Nat)(f:List Cl)(m:b<=64)(g:∀a∈f,a.s.size<=12):(fF c d e b f).length<=89*f.length:=by induction f with|nil=>simp[fF]|cons a i n=>have k:fF c d e b (a::i)=mI c d e b a++fF c d e b i:=rfl;have o:=Lj c d e b a m (g a (by simp));have p:=n (λj l=>g j (by simp[l]));rw[k,aw,aX];omega
def x9(k:Int)(cs:List Cl):List Bool:=
 [cs.any λc=>c.null]++(if k=1 then[]else qc (leastOf (dT cs))++bitsOf (bitLen (od (dT cs))) 7)++fF (cs.any λc=>c.null) k (leastOf (dT cs)) (bitLen (od (dT cs))) cs
theorem QD{b:List Cl}{a:Cl}(c:a∈b)(d:a.null=false):a.n∈dT b:=by simp only[dT,List.mem_map,List.mem_filter];exact⟨a,⟨c,by simp[d]⟩,rfl⟩
theorem Lk(g:Nat->Prop)(j:Nat)(p:List Bool)(f:Int)(b:List Cl)(O:Option Addr)(o y P:Nat)(r:ω)(W:Writer g r j p)
 (G:0<b.length->O=some (Ad o y)) (U:nD r o y b) (T:0<b.length->g o) (x:∀a∈b,zN a) (a0:b.length<=64) (hb:p.length<=1000) :
 Calls prog 340 #[χ #[],.pointer (some (Ad j 0)),.int .i64 f,ψ O b.length P] r λk C=>k=.returned (.tuple #[])/\Writer g C j (p++x9 f b)/\aY g r C:=by
 have M:=aY.uz (dh r (.cells #[] 370) none) W.old;have GJ:nD (r.alloc (.cells #[] 370)) o y b:=(by intro e a w;exact U.kept M (T (by have:=(aj.1 w).1;omega)) e a w);have ac:=au (Xd (w:=r.alloc (.cells #[] 370)) (cap:=P) (.inl ⟨rfl,λ_=>rfl⟩) G GJ (by omega));have HE:=au (show x9 f b=[b.any λa=>a.null]++(if f=1 then[]else qc (leastOf (dT b))++bitsOf (bitLen (od (dT b))) 7)++fF (b.any λa=>a.null) f (leastOf (dT b)) (bitLen (od (dT b))) b from rfl);have L:=A2 (λa d=>(x a d).1);have H:=uM L;have xB:=nC (Hp L);have DM:∀a∈b,a.null=false->IntKind.u64.wrap (IntKind.u64.wrap a.n - IntKind.u64.wrap (leastOf (dT b)))=(((a.n - leastOf (dT b)).toNat:Nat):Int)/\(a.n - leastOf (dT b)).toNat<18446744073709551616:=(by intro a d i;have c:=I0 (QD d i);refine⟨Qx (x a d).1 H c,?_⟩;have l:=(x a d).1;unfold cR at l H;omega);have al:∀a∈b,(b.any λa=>a.null)=false->a.null=false:=(by intro a d i;have:=mA.1 i a d;simpa using this);have aa:=λ(C:ω) (By:nD C o y b)=>au (Qy b O o y P C G By (by omega) (λa d=>(x a d).1));generalize alQ:(b.any λa=>a.null)=dI at *;generalize leastOf (dT b)=least at *;generalize bitLen (od (dT b))=width at *;have HC:=au U;have HO:=au x;have Tq:=au (W.alloc (.cells #[] 370));have Xg:=au M;have ab:=au H;have ap:=au DM;have aq:=au al;have am:=au aa;clear U x W M GJ L H DM al alQ aa;go_in;go_wp2_with fail;refine ac.J.mono ?_;rintro k w1 ⟨rfl,c⟩;have K:=mX c;have FW:=au (Tq.J.wQ K);have Z:=au (Xg.J.trans (aY.uz K Tq.J.old));clear c K ac;go_wp2_with fail;refine(Qv g j p dI _ FW.J (by omega)).mono ?_;rintro k w2 ⟨rfl,c,l⟩;have vG:=au c;have s:=au (Z.J.trans l);have tP:nD w2 o y b:=(by intro e a w;exact HC.J.kept s.J (T (by have:=(aj.1 w).1;omega)) e a w);have HF:=am.J w2 tP;clear c l tP am;go_wp2_with fail;refine HF.J.mono ?_;rintro k w3 ⟨rfl,c⟩;have N:=mX c;have DL:=au (vG.J.wQ N);have FT:=au (s.J.trans (aY.uz N vG.J.old));clear c N HF;have⟨z,t⟩:=nm ((if f=1 then[]else qc least++bitsOf width 7));rw[<- t]at HE;have FJ:(qc least).length<=72:=by rw[wy];have:=nC (zL ab.J);omega
 have aC:z.length<=79:=(by rw[t];split;{simp};rw[aw,bP];omega);by_cases c:f=1;(case' pos=>have t1:(f != 1)=false:=(by simp[c]);have t2:(f==1)=true:=(by simp[c]);rw[aF c]at t;have ad:Writer g w3 j (p++[dI]++z):=(by rw[t];simpa using DL.J);have zc:=FT.J);(case' neg=>have t1:(f != 1)=true:=(by simp[c]);have t2:(f==1)=false:=(by simp[c]);rw[aE c]at t;go_wp2_with fail;refine(BZ g j _ least _ DL.J ab.J (by simp only[List.length_append,List.length_cons,List.length_nil];omega)).mono ?_;rintro k w4 ⟨rfl,A,F⟩;go_wp2_with fail;refine(nG g j _ _ _ _ A (by omega) (by omega) (by omega) (by simp only[List.length_append,List.length_cons,List.length_nil];rw[show Int.toNat 7=7 from rfl];omega)).mono ?_;rintro k w5 ⟨rfl,v,R⟩;have ad:Writer g w5 j (p++[dI]++z):=(by rw[t];simpa only[List.append_assoc,Int.toNat_natCast,show Int.toNat 7=7 from rfl]using v);have zc:=(FT.J.trans F).trans R);all_goals
  have Z:=au c;clear c t;go_wp2;go_loopw[34] (λQ wr=>∃e:Nat,e<=b.length/\Q=.int .i64 e/\Writer g wr j (p++[dI]++z++fF dI f least width (b.take e))/\aY g r wr) (λQ _=>b.length - (intOf Q).toNat);case atStart=>exact⟨0,aI _,rfl,by simpa[fF]using ad,zc⟩
  case round=>
   obtain⟨e,w,rfl,u,s⟩:=hrel;by_cases cQ:e<b.length
   .have jY:(e:Int)<(b.length:Int):=(by omega);obtain⟨a,I⟩:∃a,b[e]?=some a:=⟨b[e],af cQ⟩;obtain rfl:=G (by omega);have⟨c0,c1,c2⟩:=HC.J.kept s (T (by omega)) e a I;have lQ:o<wr.heap.size:=bA _ _ c0;have E:=aA I;have K5:=(HO.J a E).2;have ax:=zS dI f least width (b.take e) xB (λav hd=>(HO.J av (eH hd)).2);rw[bV]at ax;have HI:=au I;have V:=ap.J a E;have an:=aq.J a E;have⟨l0,D⟩:=nm (p++[dI]++z++fF dI f least width (b.take e));have a1:l0.length<=200000:=(by rw[D];simp only[List.length_append,List.length_cons,List.length_nil];omega);rw[<- D]at u;have ao:=au D;have m:=u.also (K':=K2 g wr.heap.size (wr.heap.size+1)) (dh wr (si a.null a.n a.s) none) (λa3 hj=>hj.elim Or.inl (λd=>Or.inr ⟨d.1,by simpa using d.2⟩));have n:=s.alloc u.old (si a.null a.n a.s);obtain⟨X,Y,B⟩:(wr.alloc (si a.null a.n a.s)).cell? (Ad wr.heap.size 0)=some (.bool a.null)/\(wr.alloc (si a.null a.n a.s)).cell? (Ad wr.heap.size 1)=some (.int .i64 a.n)/\(wr.alloc (si a.null a.n a.s)).cell? (Ad wr.heap.size 2)=some (θ a.s):=⟨by rw[cM _ _ _ _ rfl];rfl,by rw[cM _ _ _ _ rfl];rfl,by rw[cM _ _ _ _ rfl];rfl⟩;clear I G E D u s;have A:(dI=false/\a.null=false)\/(dI=true/\a.null=false)\/(dI=true/\a.null=true):=(by cases i:dI;{exact .inl ⟨rfl,an i⟩};cases a.null<;>simp);rcases A with⟨rfl,i⟩|⟨rfl,i⟩|⟨rfl,i⟩;all_goals
     (try have ar:=au (V i).1);(try have a2:=(V i).2);have HN:=au i;rw[i]at c0 X Y B m n;clear V an i;go_wp2_with fail
     (try
       (with_reducible refine eu (Qv _ j _ _ _ m (by omega)) ?_)
       rintro k w1 ⟨rfl,c,l⟩
       replace X:=(l.cell (p:=(Ad wr.heap.size 0)) (Or.inr ⟨ae _,sd _⟩)).trans X
       replace Y:=(l.cell (p:=(Ad wr.heap.size 1)) (Or.inr ⟨ae _,sd _⟩)).trans Y
       replace B:=(l.cell (p:=(Ad wr.heap.size 2)) (Or.inr ⟨ae _,sd _⟩)).trans B
       replace n:=n.trans (l.mono (λ_ d=>Or.inl d))
       replace m:=c;go_wp2_with fail)
     (try
       (try rw[ar.J])
       refine(nG _ j _ _ _ _ m (by omega) (by omega) (by omega) (by simp;omega)).mono ?_;rintro k w2 ⟨rfl,A,F⟩
       replace B:=(F.cell (p:=(Ad wr.heap.size 2)) (Or.inr ⟨ae _,sd _⟩)).trans B
       replace n:=n.trans (F.mono (λ_ d=>Or.inl d))
       replace m:=A
       (try go_wp2_with fail)
       (try
         refine(BX _ j _ a.s _ _ m (by omega) (by omega) (by omega) (by simp[bP];omega)).mono ?_;rintro k w3 ⟨rfl,v,R⟩
         replace n:=n.trans (R.mono (λ_ d=>Or.inl d))
         replace m:=v))
     (try go_wp2);go_roundw;(case rel=>refine⟨e+1,by omega,by go_num,?_,n⟩;rw[gY HI.J,rV,<- bN,<- ao.J];have v:=m.less (K':=g) (λ_ d=>Or.inl d);(try rw[bQ]at v);simpa[mI,HN.J,Z.J]using v);case measure=>simp[intOf];omega
   obtain rfl:e=b.length:=(by omega);go_wp2;go_end0;refine⟨rfl,?_,s⟩;rw[aL (ae _)]at u;rw[HE.J];simpa only[List.append_assoc]using u
end S
namespace S
theorem wB(a:Int)(b:ω):Calls prog 42 #[.int .i64 a] b λc d=>c=.returned (.bool (decide (0<=a/\a<=3)))/\b=d:=by
 go_in;go_wp2;all_goals(go_ret;refine⟨a7 Ending.returned (a7 Value.bool ?_),rfl⟩)
 all_goals first|(simp_all;done)|(simp_all;omega)
theorem Jc(a:Int)(b:ω):Calls prog 208 #[.int .i64 a] b λc d=>c=.returned (.bool (decide (0<=a/\a<=2)))/\b=d:=by
 go_in;go_wp2;all_goals(go_ret;refine⟨a7 Ending.returned (a7 Value.bool ?_),rfl⟩)
 all_goals first|(simp_all;done)|(simp_all;omega)
theorem DN(a:Int)(b:ω):Calls prog 183 #[.int .i64 a] b λc d=>c=.returned (.iface (if a=1 then 368 else if a=2 then 369 else if a=3 then 370 else 371) (χ #[]))/\b=d:=by
 go_in;go_wp2;all_goals(go_ret;refine⟨?_,rfl⟩)
 all_goals simp_all
def strOf(bs:List Nat):ByteArray:=⟨(bs.map UInt8.ofNat).toArray⟩
def body(p k:Int)(cs:List Cl):List Bool:=if p=1 then oS k cs else if p=2 then x8 k cs else if p=3 then x9 k cs else iU k cs
def pV(p k:Int)(cs:List Cl):List Bool:=bitsOf p.toNat 8++bitsOf k.toNat 8++bitsOf cs.length 8++body p k cs
theorem Uv(a:ω):Writer (·<a.heap.size) (a.alloc (.cells #[ψ none 0 0,.int .i64 0] 375)) a.heap.size []:=by refine⟨ψ none 0 0,[],Lays.nil,?_,?_,?_,?_,iJ _ _ _ _,?_,?_,?_,?_⟩;{rw[cM _ _ _ _ rfl];rfl};{rw[cM _ _ _ _ rfl];rfl};{exact jG _ _ _ _ rfl};{exact jG _ _ _ _ rfl};{simp[Value.ownBlock]};{simp};{intro c b;simp[Value.ownBlock]at b};intro e d;simp;omega
theorem fold_push(c:List Nat):∀(a:ByteArray),(c.map (λ(b:Nat)=>(b:Int))).foldl (λd b=>d.push (UInt8.ofNat b.toNat)) a=⟨a.data++(c.map UInt8.ofNat).toArray⟩:=by induction c with|nil=>(intro a;simp)|cons b d e=>intro a;rw[eG,jO,e];congr 1;simp[ByteArray.push]
theorem ahi{d:Nat->Prop}{a:ω}{j b c:Nat}{bs:List Nat}{g:List Bool}(e:Wr d a j (.slice (some ⟨b,0,none⟩) bs.length c) bs g):(convert 68 9 (.slice (some ⟨b,0,none⟩) bs.length c)).run prog a=.ok (θ (strOf bs)) a:=by rw[pP a 68 9 5 _ _ _ underlying68 underlying5 underlying9];have f:(loadCells ⟨b,0,none⟩ bs.length).run prog a=.ok ((bs.map (λ(i:Nat)=>(i:Int))).map (Value.int .u8)).toArray a:=(by have:=vq (P:=prog) a ⟨b,0,none⟩ (Ez bs) (e.own.cells rfl);rw[show(Ez bs).length=bs.length by simp[Ez]]at this;rw[this];simp[Ez,Function.comp_def]);rw[vX a _ _ _ _ f,fold_push];simp[strOf]
def kd(P:Program)(t:TypeId)(i:Nat):String:=match P.underlying t with|some (.interface ms)=>(ms.toList.map Prod.fst).getD i default|_=>default
theorem Tryz.ahj(a:ω):(method 566 368 (χ #[]) (kd prog 336 1)).run prog a=.ok (327,χ #[]) a:=by kernel_rfl
theorem Tryz.ahk(a:ω):(method 566 369 (χ #[]) (kd prog 336 1)).run prog a=.ok (337,χ #[]) a:=by kernel_rfl
theorem Tryz.ahl(a:ω):(method 566 370 (χ #[]) (kd prog 336 1)).run prog a=.ok (340,χ #[]) a:=by kernel_rfl
theorem Tryz.ahm(a:ω):(method 566 371 (χ #[]) (kd prog 336 1)).run prog a=.ok (345,χ #[]) a:=by kernel_rfl
theorem Mh(c b:Int)(a:List Cl)(n:Option Addr)(d l o:Nat)(k:ω)(M:0<a.length->n=some ⟨d,l,none⟩)(F:nD k d l a)(W:a.length<=o)(D:a.length<=64)(hn:∀g∈a,cR g.n)
 (hs:∀g∈a,g.s.size<=140737488351232) (Gv:0<=c) (IA:c<=3) (A1:0<=b) (oz:b<=2) (O:a.all (okB b)=true) :
 Calls prog 184 #[.int .i64 c,.int .i64 b,ψ n a.length o] k λi w'=>(∃bs,Lays bs (pV c b a)/\i=.returned (.tuple #[θ (strOf bs),.int .i64 0]))/\Below k.heap.size k w':=by
 have ap:(a.length:Int)<=64:=by omega
 have H:=B1 b a n d l o k M F (by omega) hs;rw[O]at H;have an:decide (0<=c/\c<=3)=true:=by simp;omega
 have ab:decide (0<=b/\b<=2)=true:=by simp;omega
 have I:=wB c k;have K:=Jc b k;rw[an]at I;rw[ab]at K;have X:∀g∈a,zN g:=λg p=>EZ (zO (hn g p) (eV.1 O g p));have A:=au X;go_in;go_wp2_with fail;refine I.mono ?_;rintro i r ⟨rfl,rfl⟩;go_wp2_with fail;refine K.mono ?_;rintro i r ⟨rfl,rfl⟩;go_wp2_with fail;refine H.mono ?_;rintro i r ⟨rfl,e⟩;have v:=e;go_wp2_with fail;refine(nG _ _ _ _ _ _ (Uv r) (by omega) (by omega) (by omega) (by simp)).mono ?_;rintro i w2 ⟨rfl,e,j⟩;have vG:=e;have Q:=((aY.refl (·<r.heap.size) r).alloc (λ_ p=>p) _).trans j;go_wp2_with fail;refine(nG _ _ _ _ _ _ vG (by omega) (by omega) (by omega) (by simp[bP])).mono ?_;rintro i w3 ⟨rfl,e,j⟩;have P:=e;have R:=Q.trans j;go_wp2_with fail;refine(nG _ _ _ _ _ _ P (by omega) (by omega) (by omega) (by simp[bP])).mono ?_;rintro i s ⟨rfl,e,j⟩;have B:=e;have L:=R.trans j;go_wp2_with fail;refine(DN c s).mono ?_;rintro i w5 ⟨rfl,rfl⟩;have E:nD s d l a:=(by intro ao g hi;obtain⟨e,j,Z⟩:=F ao g hi;have u:d<k.heap.size:=bA _ _ e;have G:=v.trans (L.below.mono v.size);exact⟨(G.cell (p:=⟨d,_,none⟩) u).trans e,(G.cell (p:=⟨d,_,none⟩) u).trans j,(G.cell (p:=⟨d,_,none⟩) u).trans Z⟩);have aa:0<a.length->d<r.heap.size:=(by intro p;have Y:=(F 0 a[0] (af p)).1;have u:d<k.heap.size:=bA _ _ Y;exact ai u v.size);have z:=au aa;have C:=au M;have ac:([]++bitsOf c.toNat (Int.toNat 8)++bitsOf b.toNat (Int.toNat 8)++bitsOf (a.length:Int).toNat (Int.toNat 8)).length<=1000:=(by simp only[List.length_append,bP,List.length_nil];rw[show Int.toNat 8=8 from rfl];omega);have x:=au ac;have hm:=Tryz.ahj;have ad:=Tryz.ahk;have al:=Tryz.ahl;have am:=Tryz.ahm;simp[kd,underlying336]at hm ad al am;have N:pV c b a=[]++bitsOf c.toNat (Int.toNat 8)++bitsOf b.toNat (Int.toNat 8)++bitsOf (a.length:Int).toNat (Int.toNat 8)++body c b a:=(by unfold pV;rw[bQ];rfl);have T:=au N;clear N;rcases(show c=1\/c≠1/\c=2\/c≠1/\c≠2/\c=3\/c≠1/\c≠2/\c≠3 by omega)with f|⟨f,m⟩|⟨f,m,w⟩|⟨f,m,w⟩
 all_goals
  first
   | (rw[aF f];have y:=au (show body c b a=oS b a from aF f))
   | (rw[aE f,aF m];have y:=au (show body c b a=x8 b a from(aE f).trans (aF m)))
   | (rw[aE f,aE m,aF w];have y:=au (show body c b a=x9 b a from(aE f).trans ((aE m).trans (aF w))))
   | (rw[aE f,aE m,aE w];have y:=au (show body c b a=iU b a from(aE f).trans ((aE m).trans (aE w))))
  go_wp2_with fail;first
   |refine(Lf _ _ _ b a n d l o s B C.J E z.J A.J D W x.J).mono ?_
   |refine(Li _ _ _ b a n d l o s B C.J E z.J A.J D x.J).mono ?_
   |refine(Lk _ _ _ b a n d l o s B C.J E z.J A.J D x.J).mono ?_
   |refine(IW _ _ _ b a n d l o s B C.J E z.J A.J D x.J).mono ?_
  rintro i w6 ⟨rfl,e,j⟩;rw[<- y.J,<- T.J]at e;have U:=v.trans ((L.trans j).below.mono v.size);obtain⟨av,bs,t⟩:=e;have kN:0<bs.length:=by rw[t.lays.len];unfold pV;simp only[List.length_append,bP];omega
  obtain⟨aq,Bu,rfl⟩:=t.slice kN;have ht:=ahi t;have ar:=t.sl;have V:=t.lays;go_wp2;go_ret2;exact⟨⟨bs,V,rfl⟩,U⟩
end S
